import collections
import copy
import unittest

from cases import GREAT, NOT_POINTS, spread, strewn
from closepoints.errors import NoNumber, NoPlace, NoPoints
from closepoints.turned import exchanged, mirrored, moved, moved_by, times

# Numbers of thirty figures, which only these functions are asked and tell.
THIRTY = 10 ** 30 - 1
BELOW_ONE = (0, -1, -2, -17, -10 ** 33)
FAR_PLACES = (-1, -2, -3, -4, 4, 10 ** 30, -10 ** 30, 10 ** 33, -10 ** 33)

# Each is asked with points that have one number at least; all but the points is right.
ASKED_OF_POINTS = (
    ("moved", lambda points: moved(points, (5,) * len(points[0]))),
    ("mirrored", lambda points: mirrored(points, 0)),
    ("exchanged", lambda points: exchanged(points, 0, len(points[0]) - 1)),
    ("exchanged, the same", lambda points: exchanged(points, 0, 0)),
    ("times", lambda points: times(points, 3)),
    ("times one", lambda points: times(points, 1)),
)


def points_are_right(told):
    """A list of tuples of whole numbers alone."""
    return type(told) is list and all(
        type(point) is tuple and all(type(number) is int for number in point) for point in told
    )


def plain_moved_by(points, others):
    """Goes through each point that the first one could have become."""
    for other in others:
        by = tuple(there - here for here, there in zip(points[0], other)) if points else ()
        if points:
            become = collections.Counter(tuple(a + b for a, b in zip(point, by)) for point in points)
            if become == collections.Counter(others):
                return by
    return None


class Moved(unittest.TestCase):
    def test_each_number_is_put_to_theirs(self):
        self.assertEqual(moved([(1,), (-4,)], (3,)), [(4,), (-1,)])
        self.assertEqual(moved([(1, 2), (-4, 0)], (10, -20)), [(11, -18), (6, -20)])
        self.assertEqual(moved([(1, 2, 3)], (-1, 0, 5)), [(0, 2, 8)])

    def test_by_noughts(self):
        for points in strewn():
            if points:
                self.assertEqual(moved(points, (0,) * len(points[0])), points)

    def test_there_and_back(self):
        for points in strewn():
            if points:
                by = (7, -GREAT, THIRTY)[:len(points[0])]
                back = tuple(-number for number in by)
                told = moved(points, by)
                self.assertEqual(told, [tuple(a + b for a, b in zip(point, by)) for point in points])
                self.assertEqual(moved(told, back), points)

    def test_thirty_figures(self):
        self.assertEqual(moved([(GREAT, -GREAT)], (THIRTY - GREAT, GREAT - THIRTY)), [(THIRTY, -THIRTY)])
        self.assertEqual(moved([(THIRTY, 0, -THIRTY)], (-1, 1, 1)), [(THIRTY - 1, 1, 1 - THIRTY)])

    def test_another_count_of_numbers_is_refused(self):
        for count in (1, 2, 3):
            for many in (1, 2, 5):
                for by in ((), (1,), (1, 2), (1, 2, 3), (1, 2, 3, 4), (0,) * 7):
                    if len(by) != count:
                        with self.subTest(count=count, many=many, by=by):
                            with self.assertRaises(NoPoints):
                                moved(spread(many, count, 9, 1), by)

    def test_of_no_points(self):
        for by in ((1,), (1, 2), (1, 2, 3), (0,)):
            self.assertEqual(moved([], by), [])
        for by in ((), (1, 2, 3, 4), (0,) * 5):
            with self.subTest(by=by):
                with self.assertRaises(NoPoints):
                    moved([], by)

    def test_what_are_no_points_is_refused_whatever_they_move_by(self):
        for points in NOT_POINTS:
            for by in ((), (1,), (1, 2), (1, 2, 3), (1, 2, 3, 4)):
                with self.subTest(points=points, by=by):
                    with self.assertRaises(NoPoints):
                        moved(points, by)


class Mirrored(unittest.TestCase):
    def test_one_of_their_numbers(self):
        points = [(1, -2, 3), (0, 5, -6)]
        self.assertEqual(mirrored(points, 0), [(-1, -2, 3), (0, 5, -6)])
        self.assertEqual(mirrored(points, 1), [(1, 2, 3), (0, -5, -6)])
        self.assertEqual(mirrored(points, 2), [(1, -2, -3), (0, 5, 6)])
        self.assertEqual(mirrored([(4,), (-9,), (0,)], 0), [(-4,), (9,), (0,)])
        self.assertEqual(mirrored([(4, 7)], 1), [(4, -7)])

    def test_twice_they_are_the_points(self):
        for points in strewn():
            for number in range(len(points[0]) if points else 0):
                told = mirrored(points, number)
                self.assertEqual([point[number] for point in told], [-point[number] for point in points])
                self.assertEqual(mirrored(told, number), points)

    def test_thirty_figures(self):
        self.assertEqual(mirrored([(THIRTY, -THIRTY)], 0), [(-THIRTY, -THIRTY)])
        self.assertEqual(mirrored([(THIRTY, -THIRTY)], 1), [(THIRTY, THIRTY)])

    def test_a_number_that_they_have_not_is_refused(self):
        for count in (1, 2, 3):
            for many in (1, 2, 5):
                for number in FAR_PLACES + (count, count + 1, -count):
                    with self.subTest(count=count, many=many, number=number):
                        with self.assertRaises(NoPlace):
                            mirrored(spread(many, count, 9, 1), number)

    def test_of_no_points_any_is_refused(self):
        for number in FAR_PLACES + (0, 1, 2, 3):
            with self.subTest(number=number):
                with self.assertRaises(NoPlace):
                    mirrored([], number)


class Exchanged(unittest.TestCase):
    def test_two_of_their_numbers(self):
        points = [(1, 2, 3), (-4, 0, 6)]
        self.assertEqual(exchanged(points, 0, 1), [(2, 1, 3), (0, -4, 6)])
        self.assertEqual(exchanged(points, 0, 2), [(3, 2, 1), (6, 0, -4)])
        self.assertEqual(exchanged(points, 1, 2), [(1, 3, 2), (-4, 6, 0)])
        self.assertEqual(exchanged([(8, 9)], 1, 0), [(9, 8)])

    def test_either_way_about(self):
        for points in strewn():
            count = len(points[0]) if points else 0
            for one in range(count):
                for other in range(count):
                    told = exchanged(points, one, other)
                    self.assertEqual(told, exchanged(points, other, one))
                    self.assertEqual([point[one] for point in told], [point[other] for point in points])
                    self.assertEqual(exchanged(told, one, other), points)

    def test_one_and_the_same_number_twice(self):
        for points in ([(5,), (6,)], [(5, 6)], [(5, 6, 7), (8, 9, 1)]):
            for number in range(len(points[0])):
                told = exchanged(points, number, number)
                self.assertEqual(told, points)
                self.assertIsNot(told, points)

    def test_thirty_figures(self):
        self.assertEqual(exchanged([(THIRTY, 0, -THIRTY)], 0, 2), [(-THIRTY, 0, THIRTY)])

    def test_a_number_that_they_have_not_is_refused_of_either(self):
        for count in (1, 2, 3):
            points = spread(4, count, 9, 1)
            for number in FAR_PLACES + (count, count + 1, -count):
                for right in range(count):
                    with self.subTest(count=count, number=number, right=right):
                        with self.assertRaises(NoPlace):
                            exchanged(points, number, right)
                        with self.assertRaises(NoPlace):
                            exchanged(points, right, number)
                with self.assertRaises(NoPlace):
                    exchanged(points, number, number)

    def test_of_no_points_any_is_refused(self):
        for number in FAR_PLACES + (0, 1, 2, 3):
            for other in (number, 0, 1):
                with self.subTest(number=number, other=other):
                    with self.assertRaises(NoPlace):
                        exchanged([], number, other)


class Times(unittest.TestCase):
    def test_each_number(self):
        self.assertEqual(times([(1,), (-4,), (0,)], 3), [(3,), (-12,), (0,)])
        self.assertEqual(times([(1, 2), (-4, 0)], 10), [(10, 20), (-40, 0)])
        self.assertEqual(times([(1, 2, -3)], 2), [(2, 4, -6)])

    def test_times_one(self):
        for points in strewn():
            told = times(points, 1)
            self.assertEqual(told, points)
            self.assertIsNot(told, points)

    def test_of_no_points(self):
        for many in (1, 2, 10 ** 33):
            self.assertEqual(times([], many), [])

    def test_thirty_figures(self):
        self.assertEqual(times([(GREAT, -1)], 10 ** 15), [(999999999999999 * 10 ** 15, -10 ** 15)])
        self.assertEqual(times([(1, -1, 0)], THIRTY), [(THIRTY, -THIRTY, 0)])

    def test_below_one_is_refused(self):
        for points in ([], [(1,)], [(0, 0)], spread(9, 3, 9, 1)):
            for many in BELOW_ONE:
                with self.subTest(points=points, many=many):
                    with self.assertRaises(NoNumber):
                        times(points, many)


class MovedBy(unittest.TestCase):
    def test_in_the_same_order(self):
        self.assertEqual(moved_by([(1,), (5,)], [(4,), (8,)]), (3,))
        self.assertEqual(moved_by([(1, 2)], [(-1, 20)]), (-2, 18))
        self.assertEqual(moved_by([(1, 2, 3), (4, 5, 6)], [(1, 1, 4), (4, 4, 7)]), (0, -1, 1))

    def test_the_point_is_this_way_about(self):
        self.assertEqual(moved_by([(0, 0)], [(3, -4)]), (3, -4))
        self.assertEqual(moved_by([(3, -4)], [(0, 0)]), (-3, 4))

    def test_in_another_order(self):
        self.assertEqual(moved_by([(1,), (5,), (2,)], [(12,), (11,), (15,)]), (10,))
        self.assertEqual(moved_by([(0, 9), (9, 0), (5, 5)], [(6, 6), (1, 10), (10, 1)]), (1, 1))
        for points in strewn():
            if points:
                by = (7, -GREAT, THIRTY)[:len(points[0])]
                others = moved(points, by)
                for order in (others, others[::-1], sorted(others), others[1:] + others[:1]):
                    self.assertEqual(moved_by(points, order), by)
                    self.assertEqual(moved_by(points[::-1], order), by)

    def test_the_same_points_are_moved_by_noughts(self):
        self.assertEqual(moved_by([(3, 4), (1, 2)], [(1, 2), (3, 4)]), (0, 0))
        self.assertEqual(moved_by([(7,)], [(7,)]), (0,))

    def test_points_told_twice(self):
        self.assertEqual(moved_by([(1,), (1,), (2,)], [(6,), (5,), (5,)]), (4,))
        self.assertIsNone(moved_by([(1,), (1,), (2,)], [(6,), (6,), (5,)]))
        self.assertIsNone(moved_by([(1,), (2,)], [(5,), (5,)]))
        self.assertIsNone(moved_by([(5,), (5,)], [(1,), (2,)]))
        self.assertEqual(moved_by([(5, 5)] * 3, [(0, 1)] * 3), (-5, -4))

    def test_one_more_and_one_fewer(self):
        points = spread(6, 2, 9, 4)
        others = moved(points, (3, 3))
        self.assertEqual(moved_by(points, others), (3, 3))
        self.assertIsNone(moved_by(points, others[:-1]))
        self.assertIsNone(moved_by(points[:-1], others))
        self.assertIsNone(moved_by(points, others + others[:1]))
        self.assertIsNone(moved_by(points + points[-1:], others))
        self.assertIsNone(moved_by([(1,)], [(1,), (1,)]))
        self.assertIsNone(moved_by([(1,), (1,)], [(1,)]))

    def test_one_otherwise(self):
        points = spread(6, 2, 9, 4)
        for place in range(6):
            for more in ((1, 0), (0, 1), (-1, 0), (0, -1), (1, -1)):
                others = moved(points, (3, 3))
                others[place] = tuple(a + b for a, b in zip(others[place], more))
                with self.subTest(place=place, more=more):
                    self.assertIsNone(moved_by(points, others))

    def test_as_going_through_each_point(self):
        for count in (1, 2, 3):
            for many in (1, 2, 3):
                for seed in range(60):
                    points, others = spread(many, count, 1, seed), spread(many, count, 1, seed + 1000)
                    with self.subTest(points=points, others=others):
                        self.assertEqual(moved_by(points, others), plain_moved_by(points, others))

    def test_turned_in_another_way(self):
        points = [(0, 0), (1, 0), (0, 5)]
        self.assertIsNone(moved_by(points, mirrored(points, 0)))
        self.assertIsNone(moved_by(points, exchanged(points, 0, 1)))
        self.assertIsNone(moved_by(points, times(points, 2)))
        self.assertEqual(moved_by([(0, 0), (1, 0)], mirrored([(0, 0), (1, 0)], 0)), (-1, 0))

    def test_of_no_points(self):
        self.assertIsNone(moved_by([], []))
        for points in ([(1,)], [(1, 2)], [(1, 2, 3), (4, 5, 6)]):
            self.assertIsNone(moved_by(points, []))
            self.assertIsNone(moved_by([], points))

    def test_unlike_counts_of_numbers_are_refused(self):
        for one in (1, 2, 3):
            for other in (1, 2, 3):
                if one != other:
                    for many in (1, 3, 4):
                        with self.subTest(one=one, other=other, many=many):
                            with self.assertRaises(NoPoints):
                                moved_by(spread(3, one, 5, 1), spread(many, other, 5, 2))

    def test_either_list_is_no_points(self):
        for wrong in NOT_POINTS:
            for points in ([], [(1,)], [(1, 2)], [(1, 2, 3), (4, 5, 6)], wrong):
                with self.subTest(wrong=wrong, points=points):
                    with self.assertRaises(NoPoints):
                        moved_by(points, wrong)
                    with self.assertRaises(NoPoints):
                        moved_by(wrong, points)

    def test_what_is_handed_in_stays_as_it_was(self):
        points, others = [(9, 9), (1, 2), (5, 0)], [(2, 3), (10, 10), (6, 1)]
        self.assertEqual(moved_by(points, others), (1, 1))
        self.assertEqual((points, others), ([(9, 9), (1, 2), (5, 0)], [(2, 3), (10, 10), (6, 1)]))

    def test_kinds(self):
        for count in (1, 2, 3):
            told = moved_by(spread(4, count, 9, 1), spread(4, count, 9, 1))
            self.assertIs(type(told), tuple)
            self.assertEqual([type(number) for number in told], [int] * count)


class OfEach(unittest.TestCase):
    def test_what_are_no_points_is_refused(self):
        asked = (
            lambda points: mirrored(points, 0), lambda points: mirrored(points, -1), lambda points: mirrored(points, 9),
            lambda points: exchanged(points, 0, 0), lambda points: exchanged(points, -1, 0),
            lambda points: exchanged(points, 0, 9), lambda points: times(points, 2), lambda points: times(points, 0),
        )
        for number, ask in enumerate(asked):
            for points in NOT_POINTS:
                before = copy.deepcopy(points)
                with self.subTest(number=number, points=points):
                    with self.assertRaises(NoPoints):
                        ask(points)
                    self.assertEqual(points, before)

    def test_what_is_handed_in_stays_as_it_was(self):
        for name, ask in ASKED_OF_POINTS:
            for count in (1, 2, 3):
                points = spread(9, count, 9, 1)
                before = copy.deepcopy(points)
                told = ask(points)
                with self.subTest(name=name, count=count):
                    self.assertEqual(points, before)
                    self.assertTrue(points_are_right(told))
                    self.assertEqual(len(told), 9)

    def test_the_list_is_the_askers_own(self):
        for name, ask in ASKED_OF_POINTS:
            points = spread(9, 2, 9, 1)
            told = ask(points)
            kept = list(told)
            told.append((99, 99))
            told.reverse()
            with self.subTest(name=name):
                self.assertEqual(points, spread(9, 2, 9, 1))
                self.assertEqual(ask(points), kept)
            later = ask(points)
            points.clear()
            self.assertEqual(later, kept)

    def test_no_points_tell_a_new_list(self):
        for ask in (lambda points: moved(points, (1, 2)), lambda points: times(points, 2)):
            points = []
            told = ask(points)
            told.append((1,))
            self.assertEqual(points, [])
            self.assertEqual(ask(points), [])

    def test_the_order_of_the_points_stays(self):
        points = [(5, 1), (0, 2), (9, 3), (0, 2)]
        self.assertEqual(moved(points, (1, 1)), [(6, 2), (1, 3), (10, 4), (1, 3)])
        self.assertEqual(mirrored(points, 0), [(-5, 1), (0, 2), (-9, 3), (0, 2)])
        self.assertEqual(exchanged(points, 0, 1), [(1, 5), (2, 0), (3, 9), (2, 0)])
        self.assertEqual(times(points, 2), [(10, 2), (0, 4), (18, 6), (0, 4)])


if __name__ == "__main__":
    unittest.main()
