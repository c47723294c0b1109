"""Between two lists of points: the nearest two, near pairs, and how far the one list is from the other."""

from closepoints.checks import need_bound, need_two_lists_and_way
from closepoints.nearest import nearest_among
from closepoints.points import far_between


def pairs_between(points, others, way):
    pairs = []
    for i, point in enumerate(points):
        for j, other in enumerate(others):
            pairs.append((far_between(way, point, other), i, j))
    return pairs


def two_between(points, others, way):
    need_two_lists_and_way(points, others, way)
    return min(pairs_between(points, others, way), default=None)


def near_between(points, others, way, bound):
    need_two_lists_and_way(points, others, way)
    need_bound(bound)
    return [(i, j) for far, i, j in pairs_between(points, others, way) if far <= bound]


def far_list(points, others, way):
    need_two_lists_and_way(points, others, way)
    farthest = None
    for i, point in enumerate(points):
        nearest = nearest_among(others, way, point, list(range(len(others))))
        # Only a greater one takes the place, so of equally far ones the least i stays.
        if nearest is not None and (farthest is None or nearest[0] > farthest[0]):
            farthest = (nearest[0], i, nearest[1])
    return farthest
