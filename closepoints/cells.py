"""Papers by cells, which show that no two points are nearer than a bound."""

from closepoints.checks import STREETS, need_bound_from_one, need_points, need_points_and_way
from closepoints.errors import NoPaper
from closepoints.nearest import nearest_two


def cell_by_side(point, side):
    return tuple([number // side for number in point])


def cells_by_side(points, side):
    places = {}
    for place, point in enumerate(points):
        places.setdefault(cell_by_side(point, side), []).append(place)
    return [(cell, places[cell]) for cell in sorted(places)]


def side_is_enough(way, side, bound):
    # Below nought a side's square could be great enough too.
    if side < 1:
        return False
    if way == STREETS:
        return side >= bound
    return side * side >= bound


def least_root(bound):
    """The least whole number whose square is at least the bound, which is 1 or more."""
    too_small = 0
    enough = bound
    while enough - too_small > 1:
        half = (too_small + enough) // 2
        if half * half >= bound:
            enough = half
        else:
            too_small = half
    return enough


def least_side(way, bound):
    if way == STREETS:
        return bound
    return least_root(bound)


def some_are_nearer(points, way, bound):
    # All pairs will do for those of neighbouring cells: two that are nearer than the bound differ by less than
    # a side that is great enough in each number, so their cells are neighbours.
    found = nearest_two(points, way)
    return found is not None and found[0] < bound


def are_whole(numbers):
    return all([isinstance(number, int) and not isinstance(number, bool) for number in numbers])


def is_cell_with_places(entry):
    if not isinstance(entry, tuple) or len(entry) != 2:
        return False
    if not isinstance(entry[0], tuple) or not isinstance(entry[1], list):
        return False
    return are_whole(entry[0]) and are_whole(entry[1])


def has_form(paper):
    if not isinstance(paper, tuple) or len(paper) != 2:
        return False
    if not are_whole([paper[0]]) or not isinstance(paper[1], list):
        return False
    return all([is_cell_with_places(entry) for entry in paper[1]])


def cell_of(point, side):
    need_points([point])
    need_bound_from_one(side)
    return cell_by_side(point, side)


def cells_show(points, way, bound, paper):
    need_points_and_way(points, way)
    need_bound_from_one(bound)
    if not has_form(paper) or not side_is_enough(way, paper[0], bound):
        return False
    # Sorted, each cell once, with all its places rising: by one side there is just one such list of cells.
    if paper[1] != cells_by_side(points, paper[0]):
        return False
    return not some_are_nearer(points, way, bound)


def cells_paper(points, way, bound):
    need_points_and_way(points, way)
    need_bound_from_one(bound)
    if some_are_nearer(points, way, bound):
        raise NoPaper("two points are nearer than the bound")
    side = least_side(way, bound)
    return (side, cells_by_side(points, side))


def greatest_bound(points, way):
    found = nearest_two(points, way)
    # A bound is 1 or more, so points one on the other leave none.
    if found is None or found[0] < 1:
        return None
    return found[0]
