import collections
import itertools
import unittest

from cases import GREAT, WAYS, bounds_of, plain_pairs, spread, strewn
from closepoints.errors import NoBound, NoNumber, NoPoints, NoWay, TooMany
from closepoints.near import how_many_near, most_apart, near_counts, near_pairs, so_manieth_pair

BELOW_NOUGHT = (-1, -2, -17, -10 ** 33)


def plain_near(points, way, bound):
    return sorted((i, j) for far, i, j in plain_pairs(points, way) if far <= bound)


def plain_apart(points, way, bound):
    near = set(plain_near(points, way, bound))
    for many in range(len(points), -1, -1):
        # Sets of as many places come in the order of lists here, so the first that fits is due.
        for places in itertools.combinations(range(len(points)), many):
            if not any(pair in near for pair in itertools.combinations(places, 2)):
                return list(places)


def some_bounds(points, way):
    return bounds_of([far for far, i, j in plain_pairs(points, way)])


class NearPairs(unittest.TestCase):
    def test_of_none_and_of_one(self):
        for way in WAYS:
            for points in ([], [(1, 2)]):
                self.assertEqual(near_pairs(points, way, 10 ** 33), [])
                self.assertEqual(how_many_near(points, way, 10 ** 33), 0)

    def test_a_bound_just_as_far_one_less_and_one_more(self):
        points = [(0, 0), (3, 4)]
        for way, far in (("streets", 7), ("squares", 25)):
            for bound, told in ((far - 1, []), (far, [(0, 1)]), (far + 1, [(0, 1)])):
                with self.subTest(way=way, bound=bound):
                    self.assertEqual(near_pairs(points, way, bound), told)
                    self.assertEqual(how_many_near(points, way, bound), len(told))

    def test_a_bound_of_nought_tells_points_one_on_the_other(self):
        points = [(1,), (2,), (1,), (2,), (1,)]
        for way in WAYS:
            self.assertEqual(near_pairs(points, way, 0), [(0, 2), (0, 4), (1, 3), (2, 4)])
            self.assertEqual(how_many_near(points, way, 0), 4)
            self.assertEqual(near_pairs([(1,), (2,)], way, 0), [])

    def test_sorted_by_places_not_by_far(self):
        self.assertEqual(near_pairs([(0,), (5,), (1,), (2,)], "streets", 4), [(0, 2), (0, 3), (1, 2), (1, 3), (2, 3)])

    def test_great_bounds(self):
        points = [(GREAT, GREAT, GREAT), (-GREAT, -GREAT, -GREAT)]
        far = 12 * GREAT * GREAT
        self.assertEqual(near_pairs(points, "squares", far - 1), [])
        self.assertEqual(near_pairs(points, "squares", far), [(0, 1)])
        self.assertEqual(near_pairs(points, "squares", 10 ** 34 - 1), [(0, 1)])
        self.assertEqual(how_many_near(spread(45, 2, GREAT, 4), "squares", 10 ** 34 - 1), 990)

    def test_as_going_through_all_pairs(self):
        for points in strewn() + [spread(60, 2, 30, 5), spread(150, 3, 6, 5)]:
            for way in WAYS:
                for bound in some_bounds(points, way):
                    with self.subTest(points=points, way=way, bound=bound):
                        told = plain_near(points, way, bound)
                        self.assertEqual(near_pairs(points, way, bound), told)
                        self.assertEqual(how_many_near(points, way, bound), len(told))

    def test_a_bound_below_nought_is_refused(self):
        for ask in (near_pairs, how_many_near, near_counts, most_apart):
            for points in ([], [(1,)], spread(9, 2, 3, 1), spread(60, 3, 9, 1)):
                for way in WAYS:
                    for bound in BELOW_NOUGHT:
                        with self.subTest(ask=ask.__name__, points=points, way=way, bound=bound):
                            with self.assertRaises(NoBound):
                                ask(points, way, bound)


class SoManiethPair(unittest.TestCase):
    def test_of_none_and_of_one(self):
        for way in WAYS:
            for points in ([], [(1, 2)]):
                for number in (1, 2, 10 ** 30):
                    self.assertIsNone(so_manieth_pair(points, way, number))

    def test_each_number_of_a_few_points(self):
        points = [(0,), (10,), (1,)]
        told = [so_manieth_pair(points, "streets", number) for number in (1, 2, 3, 4)]
        self.assertEqual(told, [(1, 0, 2), (9, 1, 2), (10, 0, 1), None])
        told = [so_manieth_pair(points, "squares", number) for number in (1, 2, 3, 4)]
        self.assertEqual(told, [(1, 0, 2), (81, 1, 2), (100, 0, 1), None])

    def test_equally_far_ones_go_by_their_places(self):
        told = [so_manieth_pair([(5, 5)] * 3, "streets", number) for number in (1, 2, 3)]
        self.assertEqual(told, [(0, 0, 1), (0, 0, 2), (0, 1, 2)])

    def test_a_number_below_one_is_refused(self):
        for points in ([], [(1,)], spread(9, 2, 3, 1), spread(60, 3, 9, 1)):
            for way in WAYS:
                for number in (0, -1, -2, -36, -10 ** 30):
                    with self.subTest(points=points, way=way, number=number):
                        with self.assertRaises(NoNumber):
                            so_manieth_pair(points, way, number)

    def test_great_numbers_tell_none(self):
        for way in WAYS:
            for number in (10 ** 29, 10 ** 30 - 1, 10 ** 33):
                self.assertIsNone(so_manieth_pair(spread(60, 2, 9, 1), way, number))

    def test_as_all_pairs_of_any_points(self):
        for points in strewn() + [spread(41, 2, 9, 3), spread(60, 2, 30, 5), spread(150, 3, 6, 5)]:
            for way in WAYS:
                pairs = plain_pairs(points, way)
                numbers = list(range(1, len(pairs) + 1, max(1, len(pairs) // 6)))
                for number in numbers + ([len(pairs)] if pairs else []):
                    with self.subTest(points=points, way=way, number=number):
                        self.assertEqual(so_manieth_pair(points, way, number), pairs[number - 1])
                self.assertIsNone(so_manieth_pair(points, way, len(pairs) + 1))


class NearCounts(unittest.TestCase):
    def test_of_none_and_of_one(self):
        for way in WAYS:
            self.assertEqual(near_counts([], way, 5), [])
            self.assertEqual(near_counts([(1, 2, 3)], way, 5), [0])

    def test_itself_is_left_out(self):
        points = [(0,), (1,), (2,), (9,)]
        self.assertEqual(near_counts(points, "streets", 0), [0, 0, 0, 0])
        self.assertEqual(near_counts(points, "streets", 1), [1, 2, 1, 0])
        self.assertEqual(near_counts(points, "streets", 2), [2, 2, 2, 0])
        self.assertEqual(near_counts(points, "squares", 3), [1, 2, 1, 0])
        self.assertEqual(near_counts(points, "squares", 4), [2, 2, 2, 0])
        self.assertEqual(near_counts(points, "squares", 10 ** 33), [3, 3, 3, 3])

    def test_points_one_on_the_other(self):
        self.assertEqual(near_counts([(4, 4), (1, 1), (4, 4), (4, 4)], "squares", 0), [2, 0, 2, 2])

    def test_as_going_through_all_pairs(self):
        for points in strewn() + [spread(60, 2, 30, 5), spread(150, 3, 6, 5)]:
            for way in WAYS:
                for bound in some_bounds(points, way):
                    with self.subTest(points=points, way=way, bound=bound):
                        many = collections.Counter(itertools.chain(*plain_near(points, way, bound)))
                        told = [many[place] for place in range(len(points))]
                        self.assertEqual(near_counts(points, way, bound), told)


class MostApart(unittest.TestCase):
    def test_of_none_and_of_one(self):
        for way in WAYS:
            self.assertEqual(most_apart([], way, 0), [])
            self.assertEqual(most_apart([(1, 2)], way, 10 ** 33), [0])

    def test_as_near_as_the_bound_is_not_apart(self):
        points = [(0, 0), (3, 4)]
        for way, far in (("streets", 7), ("squares", 25)):
            self.assertEqual(most_apart(points, way, far - 1), [0, 1])
            self.assertEqual(most_apart(points, way, far), [0])
            self.assertEqual(most_apart(points, way, far + 1), [0])

    def test_points_one_on_the_other(self):
        for way in WAYS:
            self.assertEqual(most_apart([(1,), (1,), (2,), (2,), (1,)], way, 0), [0, 2])
            self.assertEqual(most_apart([(6, 6)] * 14, way, 0), [0])

    def test_the_first_of_several_sets(self):
        self.assertEqual(most_apart([(0,), (1,), (2,), (3,)], "streets", 1), [0, 2])
        self.assertEqual(most_apart([(place,) for place in range(14)], "squares", 1), [0, 2, 4, 6, 8, 10, 12])

    def test_the_first_place_is_left_where_more_can_be_had(self):
        self.assertEqual(most_apart([(2,), (0,), (4,)], "streets", 2), [1, 2])
        self.assertEqual(most_apart([(5, 5), (0, 5), (5, 0), (10, 5), (5, 10)], "streets", 5), [1, 2, 3, 4])

    def test_fourteen_that_are_all_apart(self):
        self.assertEqual(most_apart([(place,) for place in range(14)], "streets", 0), list(range(14)))

    def test_as_going_through_all_sets(self):
        for points in strewn():
            if len(points) < 15:
                for way in WAYS:
                    for bound in some_bounds(points, way):
                        with self.subTest(points=points, way=way, bound=bound):
                            self.assertEqual(most_apart(points, way, bound), plain_apart(points, way, bound))

    def test_fifteen_are_too_many(self):
        for many in (15, 16, 40, 150):
            for way in WAYS:
                for bound in (0, 3, 10 ** 33):
                    with self.subTest(many=many, way=way, bound=bound):
                        with self.assertRaises(TooMany):
                            most_apart(spread(many, 2, 9, 1), way, bound)

    def test_the_other_refusals_go_ahead_of_too_many(self):
        for many in (15, 150):
            points = spread(many, 2, 9, 1)
            for bound in BELOW_NOUGHT:
                with self.assertRaises(NoBound):
                    most_apart(points, "streets", bound)
            with self.assertRaises(NoWay):
                most_apart(points, "street", 4)
            with self.assertRaises(NoPoints):
                most_apart(points + [(1,)], "streets", 4)


if __name__ == "__main__":
    unittest.main()
