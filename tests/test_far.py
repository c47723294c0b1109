import unittest

from cases import BEYOND, GREAT, NOT_WAYS, WAYS, bounds_of, plain_far, plain_pairs, spread, strewn
from closepoints.errors import NoBound, NoPlace, NoPoints, NoWay
from closepoints.far import farthest_of, farthest_two, middle, most_near, sums_place

NO_PLACES = (-1, -2, -3, -4, -10 ** 30, 10 ** 30, -10 ** 33, 10 ** 33)
BELOW_NOUGHT = (-1, -2, -17, -10 ** 33)


def plain_farthest_two(points, way):
    pairs = sorted((-far, i, j) for far, i, j in plain_pairs(points, way))
    return (-pairs[0][0], pairs[0][1], pairs[0][2]) if pairs else None


def plain_fars(points, way, place):
    return [(plain_far(way, points[place], points[other]), other) for other in range(len(points)) if other != place]


def plain_farthest_of(points, way, place):
    fars = sorted((-far, other) for far, other in plain_fars(points, way, place))
    return (-fars[0][0], fars[0][1]) if fars else None


def plain_middle(points, way):
    found = sorted((max([far for far, other in plain_fars(points, way, i)] + [0]), i) for i in range(len(points)))
    return found[0] if found else None


def plain_sums_place(points, way):
    found = sorted((sum(far for far, other in plain_fars(points, way, i)), i) for i in range(len(points)))
    return found[0] if found else None


def plain_most_near(points, way, bound):
    found = sorted(
        (-len([far for far, other in plain_fars(points, way, i) if far <= bound]), i) for i in range(len(points))
    )
    return (-found[0][0], found[0][1]) if found else None


def kinds_are_right(told):
    return type(told) is tuple and [type(number) for number in told] == [int] * len(told)


class FarthestTwo(unittest.TestCase):
    def test_of_fewer_than_two(self):
        for way in WAYS:
            for points in ([], [(4,)], [(4, 5)], [(4, 5, 6)]):
                self.assertIsNone(farthest_two(points, way))

    def test_of_two_and_more(self):
        self.assertEqual(farthest_two([(0, 0), (3, 4)], "streets"), (7, 0, 1))
        self.assertEqual(farthest_two([(0, 0), (3, 4)], "squares"), (25, 0, 1))
        self.assertEqual(farthest_two([(5,), (0,), (9,), (-2,)], "streets"), (11, 2, 3))
        self.assertEqual(farthest_two([(5,), (0,), (9,), (-2,)], "squares"), (121, 2, 3))

    def test_the_two_ways_tell_other_pairs(self):
        points = [(0, 0), (3, 3), (5, 0)]
        self.assertEqual(farthest_two(points, "streets"), (6, 0, 1))
        self.assertEqual(farthest_two(points, "squares"), (25, 0, 2))

    def test_the_first_of_equally_far_ones(self):
        for way, far in (("streets", 4), ("squares", 16)):
            self.assertEqual(farthest_two([(2,), (0,), (4,), (4,), (0,)], way), (far, 1, 2))
            self.assertEqual(farthest_two([(0,), (4,), (0,), (4,)], way), (far, 0, 1))
            self.assertEqual(farthest_two([(0,), (0,), (4,)], way), (far, 0, 2))

    def test_points_one_on_the_other(self):
        for way in WAYS:
            self.assertEqual(farthest_two([(3, 3)] * 4, way), (0, 0, 1))

    def test_great_numbers(self):
        for great in (GREAT, BEYOND):
            points = [(0, 0, 0), (great, great, great), (-great, -great, -great)]
            self.assertEqual(farthest_two(points, "streets"), (6 * great, 1, 2))
            self.assertEqual(farthest_two(points, "squares"), (12 * great * great, 1, 2))

    def test_as_going_through_all_pairs(self):
        for points in strewn() + [spread(150, 2, 3, 1), spread(150, 3, GREAT, 1)]:
            for way in WAYS:
                with self.subTest(points=points, way=way):
                    told = farthest_two(points, way)
                    self.assertEqual(told, plain_farthest_two(points, way))
                    self.assertTrue(told is None or kinds_are_right(told))


class FarthestOf(unittest.TestCase):
    def test_of_one_point_alone(self):
        for way in WAYS:
            for points in ([(4,)], [(4, 5)], [(4, 5, 6)]):
                self.assertIsNone(farthest_of(points, way, 0))

    def test_of_each_place(self):
        points = [(5,), (0,), (9,), (-2,)]
        self.assertEqual([farthest_of(points, "streets", place) for place in range(4)],
                         [(7, 3), (9, 2), (11, 3), (11, 2)])
        self.assertEqual([farthest_of(points, "squares", place) for place in range(4)],
                         [(49, 3), (81, 2), (121, 3), (121, 2)])

    def test_the_least_place_of_equally_far_ones(self):
        points = [(2,), (4,), (0,), (4,), (2,)]
        self.assertEqual([farthest_of(points, "streets", place) for place in range(5)],
                         [(2, 1), (4, 2), (4, 1), (4, 2), (2, 1)])

    def test_never_itself_even_where_all_are_one_on_the_other(self):
        for way in WAYS:
            told = [farthest_of([(3, 3)] * 3, way, place) for place in range(3)]
            self.assertEqual(told, [(0, 1), (0, 0), (0, 0)])

    def test_as_going_through_all_others(self):
        for points in strewn() + [spread(150, 1, 60, 2)]:
            for way in WAYS:
                for place in range(len(points)):
                    with self.subTest(points=points, way=way, place=place):
                        told = farthest_of(points, way, place)
                        self.assertEqual(told, plain_farthest_of(points, way, place))
                        self.assertTrue(told is None or kinds_are_right(told))

    def test_what_is_no_place_is_refused(self):
        for points in ([], [(1,)], [(1, 2), (3, 4), (5, 6)], spread(40, 3, 9, 1)):
            for way in WAYS:
                for place in NO_PLACES + (len(points), len(points) + 1):
                    with self.subTest(points=points, way=way, place=place):
                        with self.assertRaises(NoPlace):
                            farthest_of(points, way, place)


class Middle(unittest.TestCase):
    def test_of_none_and_of_one(self):
        for way in WAYS:
            self.assertIsNone(middle([], way))
            for point in ((4,), (4, 5), (-4, 5, 6)):
                self.assertEqual(middle([point], way), (0, 0))

    def test_the_place_whose_farthest_is_least(self):
        self.assertEqual(middle([(0,), (10,), (4,), (1,)], "streets"), (6, 2))
        self.assertEqual(middle([(0,), (10,), (4,), (1,)], "squares"), (36, 2))
        self.assertEqual(middle([(0, 0), (6, 0), (3, 1), (0, 6)], "squares"), (34, 2))

    def test_not_where_the_sum_is_least(self):
        points = [(0,), (0,), (0,), (6,), (10,)]
        self.assertEqual(middle(points, "streets"), (6, 3))
        self.assertEqual(sums_place(points, "streets"), (16, 0))

    def test_the_least_of_equally_good_places(self):
        for way, far in (("streets", 5), ("squares", 25)):
            self.assertEqual(middle([(10,), (5,), (0,), (5,)], way), (far, 1))
            self.assertEqual(middle([(5,), (0,)], way), (far, 0))
        for way in WAYS:
            self.assertEqual(middle([(7, 7)] * 3, way), (0, 0))

    def test_as_going_through_all_pairs(self):
        for points in strewn() + [spread(150, 2, 40, 2)]:
            for way in WAYS:
                with self.subTest(points=points, way=way):
                    told = middle(points, way)
                    self.assertEqual(told, plain_middle(points, way))
                    self.assertTrue(told is None or kinds_are_right(told))


class SumsPlace(unittest.TestCase):
    def test_of_none_and_of_one(self):
        for way in WAYS:
            self.assertIsNone(sums_place([], way))
            for point in ((4,), (4, 5), (-4, 5, 6)):
                self.assertEqual(sums_place([point], way), (0, 0))

    def test_the_place_whose_fars_are_together_least(self):
        self.assertEqual(sums_place([(0,), (10,), (4,), (1,)], "streets"), (13, 2))
        self.assertEqual(sums_place([(0,), (10,), (4,), (1,), (-3,)], "streets"), (17, 3))
        self.assertEqual(sums_place([(0,), (10,), (4,), (1,), (-3,)], "squares"), (107, 3))
        self.assertEqual(sums_place([(0, 0), (3, 4), (1, 1)], "squares"), (15, 2))

    def test_the_least_of_equally_good_places(self):
        self.assertEqual(sums_place([(9,), (5,), (0,), (5,)], "streets"), (9, 1))
        self.assertEqual(sums_place([(5,), (0,)], "squares"), (25, 0))
        for way in WAYS:
            self.assertEqual(sums_place([(7, 7)] * 3, way), (0, 0))

    def test_as_going_through_all_pairs(self):
        for points in strewn() + [spread(150, 2, 40, 2)]:
            for way in WAYS:
                with self.subTest(points=points, way=way):
                    told = sums_place(points, way)
                    self.assertEqual(told, plain_sums_place(points, way))
                    self.assertTrue(told is None or kinds_are_right(told))


class MostNear(unittest.TestCase):
    def test_of_none_and_of_one(self):
        for way in WAYS:
            for bound in (0, 1, 10 ** 33):
                self.assertIsNone(most_near([], way, bound))
                self.assertEqual(most_near([(4, 5)], way, bound), (0, 0))

    def test_a_bound_of_nought(self):
        for way in WAYS:
            self.assertEqual(most_near([(1,), (2,), (3,), (2,), (2,)], way, 0), (2, 1))
            self.assertEqual(most_near([(1,), (2,)], way, 0), (0, 0))

    def test_just_as_far_one_less_and_one_more(self):
        points = [(20, 20), (0, 0), (3, 4)]
        for way, far in (("streets", 7), ("squares", 25)):
            self.assertEqual(most_near(points, way, far - 1), (0, 0))
            self.assertEqual(most_near(points, way, far), (1, 1))
            self.assertEqual(most_near(points, way, far + 1), (1, 1))

    def test_itself_is_left_out(self):
        self.assertEqual(most_near([(0,), (5,), (9,)], "streets", 5), (2, 1))
        self.assertEqual(most_near([(0,), (5,), (9,)], "streets", 3), (0, 0))

    def test_the_least_place_of_equally_many(self):
        self.assertEqual(most_near([(50,), (0,), (1,), (90,), (91,)], "streets", 1), (1, 1))
        self.assertEqual(most_near([(7,)] * 5, "squares", 0), (4, 0))

    def test_as_going_through_all_pairs(self):
        for points in strewn() + [spread(150, 2, 6, 3)]:
            for way in WAYS:
                for bound in bounds_of([far for far, i, j in plain_pairs(points, way)]):
                    with self.subTest(points=points, way=way, bound=bound):
                        told = most_near(points, way, bound)
                        self.assertEqual(told, plain_most_near(points, way, bound))
                        self.assertTrue(told is None or kinds_are_right(told))

    def test_a_bound_below_nought_is_refused(self):
        for points in ([], [(1,)], spread(9, 2, 3, 1), spread(60, 3, 9, 1)):
            for way in WAYS:
                for bound in BELOW_NOUGHT:
                    with self.subTest(points=points, way=way, bound=bound):
                        with self.assertRaises(NoBound):
                            most_near(points, way, bound)


class Refusals(unittest.TestCase):
    """The order of these with points is asked of each function in test_points.py; of no points it is here."""

    def test_another_text_is_refused_of_no_points(self):
        for way in NOT_WAYS:
            for ask in (farthest_two, middle, sums_place):
                with self.subTest(way=way, ask=ask.__name__):
                    with self.assertRaises(NoWay):
                        ask([], way)

    def test_no_way_goes_ahead_of_no_place_and_no_bound(self):
        for points in ([], [(1,)], [(1, 2), (3, 4)]):
            for way in NOT_WAYS:
                for place in (-1, 0, 99):
                    with self.assertRaises(NoWay):
                        farthest_of(points, way, place)
                for bound in (-1, 0, 99):
                    with self.assertRaises(NoWay):
                        most_near(points, way, bound)

    def test_no_points_goes_first(self):
        for points in ([()], [(1, 2, 3, 4)], [(1,), (1, 2)]):
            for way in WAYS + ("street",):
                with self.subTest(points=points, way=way):
                    for place in (-1, 0, 99):
                        with self.assertRaises(NoPoints):
                            farthest_of(points, way, place)
                    for bound in (-1, 0, 99):
                        with self.assertRaises(NoPoints):
                            most_near(points, way, bound)
                    for ask in (farthest_two, middle, sums_place):
                        with self.assertRaises(NoPoints):
                            ask(points, way)


if __name__ == "__main__":
    unittest.main()
