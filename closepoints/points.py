"""Points, how far two of them are, and all pairs of them."""

from closepoints.checks import STREETS, need_place, need_points_and_way


def far_between(way, point, other):
    differences = [abs(here - there) for here, there in zip(point, other)]
    if way == STREETS:
        return sum(differences)
    return sum([difference * difference for difference in differences])


def pairs_by_places(points, way):
    pairs = []
    for i in range(len(points)):
        for j in range(i + 1, len(points)):
            pairs.append((far_between(way, points[i], points[j]), i, j))
    return pairs


def how_far(points, way, one, other):
    need_points_and_way(points, way)
    need_place(points, one)
    need_place(points, other)
    return far_between(way, points[one], points[other])


def all_pairs(points, way):
    need_points_and_way(points, way)
    return sorted(pairs_by_places(points, way))
