"""Points moved, mirrored, with numbers exchanged, and times a number; and by what some were moved."""

from closepoints.checks import need_number, need_place, need_points, need_two_lists


def need_place_of_number(points, number):
    # Of no points there is none of their numbers, so any is refused.
    need_place(points[0] if points else (), number)


def point_moved(point, by):
    return tuple([number + more for number, more in zip(point, by)])


def point_mirrored(point, number):
    numbers = list(point)
    numbers[number] = -numbers[number]
    return tuple(numbers)


def point_exchanged(point, one, other):
    numbers = list(point)
    numbers[one] = point[other]
    numbers[other] = point[one]
    return tuple(numbers)


def moved(points, by):
    # The point to move by must be one that could stand among the points.
    need_points(points + [by])
    return [point_moved(point, by) for point in points]


def mirrored(points, number):
    need_points(points)
    need_place_of_number(points, number)
    return [point_mirrored(point, number) for point in points]


def exchanged(points, one, other):
    need_points(points)
    need_place_of_number(points, one)
    need_place_of_number(points, other)
    return [point_exchanged(point, one, other) for point in points]


def times(points, many):
    need_points(points)
    need_number(many)
    return [tuple([number * many for number in point]) for point in points]


def moved_by(points, others):
    need_two_lists(points, others)
    if not points or len(points) != len(others):
        return None
    # Moving keeps the order in which points are sorted, so the first must become the first.
    by = tuple([there - here for here, there in zip(min(points), min(others))])
    if sorted(moved(points, by)) != sorted(others):
        return None
    return by
