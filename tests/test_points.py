import unittest

from cases import (
    ASKED, ASKED_OF_PAPERS, ASKED_WRONGLY, BEYOND, GREAT, NOT_POINTS, NOT_WAYS, WAYS, plain_pairs, spread, strewn,
)
from closepoints.errors import NoPlace, NoPoints, NoWay
from closepoints.points import all_pairs, how_far

EACH = ASKED + ASKED_OF_PAPERS


class WhatPointsAre(unittest.TestCase):
    def test_points_of_one_two_and_three_numbers_are_taken(self):
        for name, ask in EACH:
            for points in ([(1,), (4,)], [(1, 2), (4, 6)], [(1, 2, 3), (4, 6, 8)]):
                for way in WAYS:
                    with self.subTest(name=name, points=points, way=way):
                        ask(points, way)

    def test_no_points_are_points(self):
        self.assertEqual(all_pairs([], "streets"), [])
        self.assertEqual(all_pairs([], "squares"), [])

    def test_what_are_no_points_is_refused_by_each(self):
        for name, ask in EACH:
            for points in NOT_POINTS:
                for way in WAYS:
                    with self.subTest(name=name, points=points, way=way):
                        with self.assertRaises(NoPoints):
                            ask(points, way)

    def test_a_late_wrong_point_among_many_is_refused_by_each(self):
        for name, ask in EACH:
            for wrong in ((), (1,), (1, 2, 3), (1, 2, 3, 4)):
                with self.subTest(name=name, wrong=wrong):
                    with self.assertRaises(NoPoints):
                        ask(spread(149, 2, 50, 3) + [wrong], "squares")


class Ways(unittest.TestCase):
    def test_streets(self):
        self.assertEqual(how_far([(3,), (-4,)], "streets", 0, 1), 7)
        self.assertEqual(how_far([(1, 2), (4, -2)], "streets", 0, 1), 7)
        self.assertEqual(how_far([(1, 2, 3), (0, 4, 9)], "streets", 0, 1), 9)

    def test_squares(self):
        self.assertEqual(how_far([(3,), (-4,)], "squares", 0, 1), 49)
        self.assertEqual(how_far([(1, 2), (4, -2)], "squares", 0, 1), 25)
        self.assertEqual(how_far([(1, 2, 3), (0, 4, 9)], "squares", 0, 1), 41)

    def test_great_numbers_are_told_to_the_last_figure(self):
        for great in (GREAT, BEYOND):
            points = [(great, -great, great), (-great, great, 1 - great)]
            self.assertEqual(how_far(points, "streets", 0, 1), 6 * great - 1)
            self.assertEqual(how_far(points, "squares", 0, 1), 12 * great * great - 4 * great + 1)

    def test_another_text_is_refused_by_each(self):
        for name, ask in EACH:
            for way in NOT_WAYS:
                with self.subTest(name=name, way=way):
                    with self.assertRaises(NoWay):
                        ask([(1, 2), (3, 4)], way)

    def test_another_text_is_refused_of_few_and_of_many_points(self):
        for name, ask in EACH:
            for many in (1, 15, 150):
                if not (name == "how_far" and many == 1):
                    with self.subTest(name=name, many=many):
                        with self.assertRaises(NoWay):
                            ask(spread(many, 2, 9, 1), "street")
        with self.assertRaises(NoWay):
            all_pairs([], "street")

    def test_no_points_goes_ahead_of_no_way(self):
        for name, ask in EACH + ASKED_WRONGLY:
            for points in NOT_POINTS:
                for way in ("street", "", "SQUARES"):
                    with self.subTest(name=name, points=points, way=way):
                        with self.assertRaises(NoPoints):
                            ask(points, way)

    def test_no_points_goes_ahead_of_the_rest(self):
        for name, ask in ASKED_WRONGLY:
            for points in NOT_POINTS:
                with self.subTest(name=name, points=points):
                    with self.assertRaises(NoPoints):
                        ask(points, "streets")

    def test_no_way_goes_ahead_of_no_place_no_bound_and_no_number(self):
        for name, ask in ASKED_WRONGLY:
            for many in (1, 2, 15):
                for way in NOT_WAYS:
                    with self.subTest(name=name, many=many, way=way):
                        with self.assertRaises(NoWay):
                            ask(spread(many, 3, 9, 1), way)


class HowFar(unittest.TestCase):
    def test_either_way_about_is_as_far(self):
        points = spread(12, 3, 40, 5)
        for way in WAYS:
            for far, i, j in plain_pairs(points, way):
                self.assertEqual(how_far(points, way, i, j), far)
                self.assertEqual(how_far(points, way, j, i), far)

    def test_a_place_is_nought_from_itself(self):
        points = spread(12, 2, GREAT, 5)
        for way in WAYS:
            for place in range(12):
                self.assertEqual(how_far(points, way, place, place), 0)

    def test_points_one_on_the_other_are_nought_apart(self):
        for way in WAYS:
            self.assertEqual(how_far([(2, 3), (5, 5), (2, 3)], way, 0, 2), 0)

    def test_of_one_point(self):
        self.assertEqual(how_far([(8,)], "streets", 0, 0), 0)

    def test_what_is_no_place_is_refused_of_either(self):
        points = [(1, 2), (3, 4), (5, 6)]
        for way in WAYS:
            for place in (-1, -2, -3, -4, 3, 4, 10 ** 30, -10 ** 30, 10 ** 33, -10 ** 33):
                for right in (0, 1, 2):
                    with self.subTest(way=way, place=place, right=right):
                        with self.assertRaises(NoPlace):
                            how_far(points, way, place, right)
                        with self.assertRaises(NoPlace):
                            how_far(points, way, right, place)
                with self.assertRaises(NoPlace):
                    how_far(points, way, place, place)

    def test_no_points_have_no_place(self):
        for place in (-1, 0, 1):
            with self.assertRaises(NoPlace):
                how_far([], "squares", place, place)


class AllPairs(unittest.TestCase):
    def test_of_none_and_of_one(self):
        for way in WAYS:
            self.assertEqual(all_pairs([], way), [])
            self.assertEqual(all_pairs([(7, 7)], way), [])

    def test_of_two(self):
        self.assertEqual(all_pairs([(0, 0), (3, 4)], "streets"), [(7, 0, 1)])
        self.assertEqual(all_pairs([(0, 0), (3, 4)], "squares"), [(25, 0, 1)])

    def test_sorted_by_far_then_by_places(self):
        points = [(0,), (10,), (1,), (11,)]
        told = [(1, 0, 2), (1, 1, 3), (9, 1, 2), (10, 0, 1), (10, 2, 3), (11, 0, 3)]
        self.assertEqual(all_pairs(points, "streets"), told)

    def test_the_two_ways_sort_otherwise(self):
        points = [(0, 0), (3, 3), (5, 0)]
        self.assertEqual(all_pairs(points, "streets"), [(5, 0, 2), (5, 1, 2), (6, 0, 1)])
        self.assertEqual(all_pairs(points, "squares"), [(13, 1, 2), (18, 0, 1), (25, 0, 2)])

    def test_of_forty(self):
        for way in WAYS:
            points = spread(40, 3, 20, 11)
            told = all_pairs(points, way)
            self.assertEqual(len(told), 780)
            self.assertEqual(told, plain_pairs(points, way))

    def test_of_strewn_points(self):
        for points in strewn():
            for way in WAYS:
                with self.subTest(points=points, way=way):
                    self.assertEqual(all_pairs(points, way), plain_pairs(points, way))


if __name__ == "__main__":
    unittest.main()
