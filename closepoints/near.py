"""Pairs that are as near as a bound, the so-manieth pair, and the most places that are apart."""

from closepoints.checks import need_at_most, need_bound, need_number, need_points_and_way
from closepoints.points import all_pairs, pairs_by_places

MOST_POINTS_APART = 14


def near_pairs(points, way, bound):
    need_points_and_way(points, way)
    need_bound(bound)
    return [(i, j) for far, i, j in pairs_by_places(points, way) if far <= bound]


def how_many_near(points, way, bound):
    return len(near_pairs(points, way, bound))


def so_manieth_pair(points, way, number):
    # The pairs come first, for NoPoints and NoWay go ahead of NoNumber.
    pairs = all_pairs(points, way)
    need_number(number)
    if number > len(pairs):
        return None
    return pairs[number - 1]


def near_counts(points, way, bound):
    counts = [0 for point in points]
    for i, j in near_pairs(points, way, bound):
        counts[i] += 1
        counts[j] += 1
    return counts


def most_of(places, near):
    if not places:
        return []
    first = places[0]
    rest = places[1:]
    taken = [first] + most_of([place for place in rest if (first, place) not in near], near)
    left = most_of(rest, near)
    # The one with the first place is the first as lists, so it stays where both are as long.
    if len(taken) >= len(left):
        return taken
    return left


def most_apart(points, way, bound):
    # The pairs come first, for NoPoints, NoWay and NoBound go ahead of TooMany.
    pairs = near_pairs(points, way, bound)
    need_at_most(points, MOST_POINTS_APART)
    near = {}
    for pair in pairs:
        near[pair] = True
    return most_of(list(range(len(points))), near)
