"""What is handed in is looked at here, before anything is reckoned.

Each function asks in the order NoPoints, NoWay, then NoPlace, NoBound or NoNumber, then TooMany or NoPaper.
"""

from closepoints.errors import NoBound, NoNumber, NoPlace, NoPoints, NoWay, TooMany

STREETS = "streets"
SQUARES = "squares"


def need_count(count):
    if count < 1 or count > 3:
        raise NoPoints("a point has one, two or three numbers")


def need_as_many_numbers(point, count):
    if len(point) != count:
        raise NoPoints("all points have as many numbers")


def need_points(points):
    for point in points:
        need_count(len(point))
        need_as_many_numbers(point, len(points[0]))


def need_way(way):
    if way != STREETS and way != SQUARES:
        raise NoWay("the way is streets or squares")


def need_points_and_way(points, way):
    need_points(points)
    need_way(way)


def need_two_lists(points, others):
    # Two lists are points and alike just where they are points together; one without points is like any.
    need_points(points + others)


def need_two_lists_and_way(points, others, way):
    need_two_lists(points, others)
    need_way(way)


def need_place(points, place):
    if place < 0 or place >= len(points):
        raise NoPlace("there is no such place")


def need_bound(bound):
    if bound < 0:
        raise NoBound("a bound is 0 or more")


def need_bound_from_one(bound):
    if bound < 1:
        raise NoBound("a bound or a side of cells is 1 or more")


def need_number(number):
    if number < 1:
        raise NoNumber("a number is 1 or more")


def need_at_most(points, many):
    if len(points) > many:
        raise TooMany("there are too many points")
