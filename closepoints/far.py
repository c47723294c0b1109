"""The farthest, the middle, the least sum of fars, and the place with the most near ones."""

from closepoints.checks import need_place, need_points_and_way
from closepoints.near import near_counts
from closepoints.points import far_between, pairs_by_places


def greatest_first(told):
    """Of tuples that come in the order of their places, the first one whose first number is greatest."""
    return max(told, key=lambda one: one[0], default=None)


def fars_of(points, way, place):
    # The place itself is among them: nought makes no greatest far greater and no sum either.
    return [far_between(way, points[place], other) for other in points]


def farthest_two(points, way):
    need_points_and_way(points, way)
    return greatest_first(pairs_by_places(points, way))


def farthest_of(points, way, place):
    need_points_and_way(points, way)
    need_place(points, place)
    fars = fars_of(points, way, place)
    return greatest_first([(far, other) for other, far in enumerate(fars) if other != place])


def middle(points, way):
    need_points_and_way(points, way)
    return min([(max(fars_of(points, way, place)), place) for place in range(len(points))], default=None)


def sums_place(points, way):
    need_points_and_way(points, way)
    return min([(sum(fars_of(points, way, place)), place) for place in range(len(points))], default=None)


def most_near(points, way, bound):
    counts = near_counts(points, way, bound)
    return greatest_first([(many, place) for place, many in enumerate(counts)])
