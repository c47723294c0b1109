"""The nearest two, the nearest of each place, and the nearest to any point."""

from closepoints.checks import need_place, need_points_and_way
from closepoints.points import far_between, pairs_by_places


def nearest_among(points, way, point, places):
    # The place stands behind the far, so of equally near ones the least place is the least tuple.
    return min([(far_between(way, point, points[place]), place) for place in places], default=None)


def nearest_other(points, way, place):
    others = [other for other in range(len(points)) if other != place]
    return nearest_among(points, way, points[place], others)


def nearest_two(points, way):
    need_points_and_way(points, way)
    return min(pairs_by_places(points, way), default=None)


def nearest_of(points, way, place):
    need_points_and_way(points, way)
    need_place(points, place)
    return nearest_other(points, way, place)


def nearest_all(points, way):
    need_points_and_way(points, way)
    return [nearest_other(points, way, place) for place in range(len(points))]


def mutual(points, way):
    found = nearest_all(points, way)
    pairs = []
    for i, nearest in enumerate(found):
        if nearest is not None and i < nearest[1] and found[nearest[1]][1] == i:
            pairs.append((i, nearest[1]))
    return pairs


def nearest_to(points, way, point):
    # The point must be one that could stand among the points, and NoPoints goes ahead of NoWay.
    need_points_and_way(points + [point], way)
    return nearest_among(points, way, point, list(range(len(points))))
