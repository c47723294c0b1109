import unittest

from cases import GREAT, NOT_POINTS, NOT_WAYS, WAYS, plain_far, plain_pairs, spread, strewn
from closepoints.errors import NoPlace, NoPoints, NoWay
from closepoints.nearest import mutual, nearest_all, nearest_of, nearest_to, nearest_two


def plain_nearest(points, way, point, left_out):
    fars = [(plain_far(way, point, points[k]), k) for k in range(len(points)) if k != left_out]
    return sorted(fars)[0] if fars else None


def plain_mutual(points, way):
    found = [plain_nearest(points, way, points[k], k) for k in range(len(points))]
    return [
        (i, j)
        for i in range(len(points))
        for j in range(i + 1, len(points))
        if found[i][1] == j and found[j][1] == i
    ]


class NearestTwo(unittest.TestCase):
    def test_fewer_than_two(self):
        for way in WAYS:
            self.assertIsNone(nearest_two([], way))
            self.assertIsNone(nearest_two([(1, 2, 3)], way))

    def test_of_two(self):
        self.assertEqual(nearest_two([(5,), (-3,)], "streets"), (8, 0, 1))
        self.assertEqual(nearest_two([(5,), (-3,)], "squares"), (64, 0, 1))

    def test_the_first_of_equally_near_ones(self):
        self.assertEqual(nearest_two([(9,), (0,), (4,), (5,), (1,)], "streets"), (1, 1, 4))
        self.assertEqual(nearest_two([(0,), (1,), (2,), (3,)], "squares"), (1, 0, 1))
        self.assertEqual(nearest_two([(0, 0), (50, 50), (0, 2), (2, 0)], "streets"), (2, 0, 2))

    def test_points_one_on_the_other(self):
        self.assertEqual(nearest_two([(1, 1), (4, 4), (2, 1), (4, 4)], "squares"), (0, 1, 3))
        self.assertEqual(nearest_two([(3,)] * 6, "streets"), (0, 0, 1))

    def test_the_way_tells_which_are_nearest(self):
        points = [(0, 0), (3, 3), (-5, 0)]
        self.assertEqual(nearest_two(points, "streets"), (5, 0, 2))
        self.assertEqual(nearest_two(points, "squares"), (18, 0, 1))

    def test_as_going_through_all_pairs(self):
        for points in strewn() + [spread(150, 2, 400, 8), spread(150, 3, 2, 8), spread(155, 1, GREAT, 8)]:
            for way in WAYS:
                with self.subTest(points=points, way=way):
                    pairs = plain_pairs(points, way)
                    self.assertEqual(nearest_two(points, way), pairs[0] if pairs else None)


class NearestOf(unittest.TestCase):
    def test_no_point_has_no_place(self):
        for place in (-1, 0, 1):
            with self.assertRaises(NoPlace):
                nearest_of([], "streets", place)

    def test_one_point_has_no_other(self):
        for way in WAYS:
            self.assertIsNone(nearest_of([(4, 4)], way, 0))
            self.assertEqual(nearest_all([(4, 4)], way), [None])

    def test_of_two(self):
        points = [(0, 0), (3, 4)]
        self.assertEqual(nearest_of(points, "streets", 0), (7, 1))
        self.assertEqual(nearest_of(points, "squares", 1), (25, 0))
        self.assertEqual(nearest_all(points, "squares"), [(25, 1), (25, 0)])

    def test_all_of_none(self):
        for way in WAYS:
            self.assertEqual(nearest_all([], way), [])

    def test_the_least_place_of_equally_near_ones(self):
        points = [(5,), (9,), (0,), (1,), (9,)]
        self.assertEqual(nearest_all(points, "streets"), [(4, 1), (0, 4), (1, 3), (1, 2), (0, 1)])
        self.assertEqual(nearest_of([(7,), (3,), (5,)], "squares", 2), (4, 0))

    def test_points_one_on_the_other(self):
        points = [(3, 3)] * 4
        self.assertEqual(nearest_all(points, "squares"), [(0, 1), (0, 0), (0, 0), (0, 0)])

    def test_what_is_no_place_is_refused(self):
        points = [(1, 2), (3, 4), (5, 6)]
        for way in WAYS:
            for place in (-1, -3, -4, 3, 4, 10 ** 30, -10 ** 30, 10 ** 33):
                with self.subTest(way=way, place=place):
                    with self.assertRaises(NoPlace):
                        nearest_of(points, way, place)
            for place in (-1, 1, 2):
                with self.assertRaises(NoPlace):
                    nearest_of([(8,)], way, place)

    def test_as_going_through_all_pairs(self):
        for points in strewn() + [spread(150, 2, 400, 9), spread(150, 3, 2, 9)]:
            for way in WAYS:
                with self.subTest(points=points, way=way):
                    plain = [plain_nearest(points, way, points[k], k) for k in range(len(points))]
                    self.assertEqual(nearest_all(points, way), plain)
                    for place in range(0, len(points), 7):
                        self.assertEqual(nearest_of(points, way, place), plain[place])


class Mutual(unittest.TestCase):
    def test_of_none_one_and_two(self):
        for way in WAYS:
            self.assertEqual(mutual([], way), [])
            self.assertEqual(mutual([(1,)], way), [])
            self.assertEqual(mutual([(1,), (100,)], way), [(0, 1)])

    def test_only_where_each_is_the_others_nearest(self):
        self.assertEqual(mutual([(0,), (10,), (3,), (5,)], "streets"), [(2, 3)])
        self.assertEqual(mutual([(20,), (0,), (21,), (1,)], "squares"), [(0, 2), (1, 3)])

    def test_equally_near_ones_go_by_the_least_place(self):
        self.assertEqual(mutual([(0,), (1,), (2,), (3,)], "streets"), [(0, 1)])
        self.assertEqual(mutual([(1,), (2,), (0,)], "streets"), [(0, 1)])

    def test_points_one_on_the_other(self):
        self.assertEqual(mutual([(3, 3)] * 5, "squares"), [(0, 1)])
        self.assertEqual(mutual([(3,), (9,), (3,), (9,)], "squares"), [(0, 2), (1, 3)])

    def test_as_going_through_all_pairs(self):
        for points in strewn() + [spread(150, 2, 400, 10), spread(150, 3, 2, 10)]:
            for way in WAYS:
                with self.subTest(points=points, way=way):
                    self.assertEqual(mutual(points, way), plain_mutual(points, way))


class NearestTo(unittest.TestCase):
    def test_of_no_points(self):
        for way in WAYS:
            for point in ((1,), (1, 2), (1, 2, 3)):
                self.assertIsNone(nearest_to([], way, point))

    def test_of_no_points_a_point_of_no_or_of_four_numbers_is_refused(self):
        for way in WAYS + ("street",):
            for point in ((), (1, 2, 3, 4), (1, 2, 3, 4, 5)):
                with self.subTest(way=way, point=point):
                    with self.assertRaises(NoPoints):
                        nearest_to([], way, point)

    def test_of_one_and_of_two_points(self):
        self.assertEqual(nearest_to([(1, 2)], "streets", (1, 2)), (0, 0))
        self.assertEqual(nearest_to([(1, 2)], "squares", (4, -2)), (25, 0))
        self.assertEqual(nearest_to([(1,), (9,)], "squares", (6,)), (9, 1))

    def test_the_least_place_of_equally_near_ones(self):
        self.assertEqual(nearest_to([(9,), (7,), (3,), (3,)], "streets", (5,)), (2, 1))
        self.assertEqual(nearest_to([(4, 4), (1, 1), (1, 1)], "squares", (1, 1)), (0, 1))

    def test_a_point_of_another_count_of_numbers_is_refused(self):
        wrong = {1: ((), (1, 2), (1, 2, 3), (1, 2, 3, 4)), 2: ((), (1,), (1, 2, 3), (1, 2, 3, 4)),
                 3: ((), (1,), (1, 2), (1, 2, 3, 4))}
        for count in wrong:
            for point in wrong[count]:
                for many in (1, 5):
                    for way in WAYS + ("street",):
                        with self.subTest(count=count, point=point, many=many, way=way):
                            with self.assertRaises(NoPoints):
                                nearest_to(spread(many, count, 9, 2), way, point)

    def test_what_are_no_points_is_refused_with_any_point(self):
        for points in NOT_POINTS:
            for point in ((), (1,), (1, 2), (1, 2, 3), (1, 2, 3, 4)):
                with self.subTest(points=points, point=point):
                    with self.assertRaises(NoPoints):
                        nearest_to(points, "streets", point)

    def test_another_way_is_refused_of_no_points_too(self):
        for way in NOT_WAYS:
            with self.subTest(way=way):
                with self.assertRaises(NoWay):
                    nearest_to([], way, (1, 2))

    def test_as_going_through_all(self):
        for points in strewn() + [spread(150, 2, 400, 12), spread(150, 3, 2, 12)]:
            for way in WAYS:
                for seed in (1, 2, 3):
                    point = spread(1, len(points[0]) if points else 2, 10 ** (seed * 5) - 1, seed)[0]
                    with self.subTest(points=points, way=way, point=point):
                        self.assertEqual(nearest_to(points, way, point), plain_nearest(points, way, point, None))


if __name__ == "__main__":
    unittest.main()
