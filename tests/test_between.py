import copy
import unittest

from cases import GREAT, NOT_POINTS, NOT_WAYS, WAYS, bounds_of, plain_far, spread, strewn
from closepoints.between import far_list, near_between, two_between
from closepoints.errors import NoBound, NoPoints, NoWay

# Each is asked with two lists and a way; the bound of the last one is refused.
ASKED_BETWEEN = (
    ("two_between", two_between),
    ("near_between", lambda points, others, way: near_between(points, others, way, 5)),
    ("far_list", far_list),
)
ASKED_BELOW = ("near_between, below", lambda points, others, way: near_between(points, others, way, -1))


def plain_between(points, others, way):
    return sorted(
        (plain_far(way, points[i], others[j]), i, j) for j in range(len(others)) for i in range(len(points))
    )


def plain_far_list(points, others, way):
    if not points or not others:
        return None
    found = []
    for i, point in enumerate(points):
        far, j = sorted((plain_far(way, point, other), j) for j, other in enumerate(others))[0]
        found.append((-far, i, j))
    far, i, j = sorted(found)[0]
    return (-far, i, j)


def two_lists():
    """Two lists of points of as many numbers: short and long, equal ones and without points among them."""
    found = []
    for points in strewn():
        count = len(points[0]) if points else 2
        found.append((points, []))
        found.append(([], points))
        found.append((points, points))
        for many, width in ((1, 2), (5, 3), (12, 30), (20, GREAT)):
            others = spread(many, count, width, many + width + len(points))
            found.append((points, others))
            found.append((others, points))
    found.append((spread(150, 2, 40, 6), spread(150, 2, 40, 7)))
    return found


class BothLists(unittest.TestCase):
    def test_either_list_is_no_points(self):
        right = ([], [(1,)], [(1, 2)], [(1, 2, 3), (4, 5, 6)])
        for name, ask in ASKED_BETWEEN + (ASKED_BELOW,):
            for wrong in NOT_POINTS:
                for way in ("streets", "street"):
                    for points in right + NOT_POINTS:
                        with self.subTest(name=name, wrong=wrong, points=points, way=way):
                            with self.assertRaises(NoPoints):
                                ask(points, wrong, way)
                            with self.assertRaises(NoPoints):
                                ask(wrong, points, way)

    def test_unlike_counts_of_numbers(self):
        for name, ask in ASKED_BETWEEN + (ASKED_BELOW,):
            for one in (1, 2, 3):
                for other in (1, 2, 3):
                    if one != other:
                        for way in ("squares", "square"):
                            with self.subTest(name=name, one=one, other=other, way=way):
                                with self.assertRaises(NoPoints):
                                    ask(spread(3, one, 5, 1), spread(4, other, 5, 2), way)

    def test_a_list_without_points_is_like_any(self):
        for way in WAYS:
            for points in ([], [(1,)], [(1, 2)], [(1, 2, 3), (4, 5, 6)]):
                for first, second in ((points, []), ([], points)):
                    self.assertIsNone(two_between(first, second, way))
                    self.assertEqual(near_between(first, second, way, 10 ** 33), [])
                    self.assertIsNone(far_list(first, second, way))

    def test_another_text_is_refused(self):
        for name, ask in ASKED_BETWEEN + (ASKED_BELOW,):
            for points, others in (([], []), ([(1,)], []), ([], [(1,)]), ([(1,)], [(2,)]), ([(1, 2)], [(3, 4)])):
                for way in NOT_WAYS:
                    with self.subTest(name=name, points=points, others=others, way=way):
                        with self.assertRaises(NoWay):
                            ask(points, others, way)

    def test_what_is_handed_in_stays_as_it_was(self):
        for name, ask in ASKED_BETWEEN:
            for points, others in ((spread(6, 2, 4, 1), spread(5, 2, 4, 2)), ([], [(2,)]), ([(2,)], [])):
                before = copy.deepcopy((points, others))
                for way in WAYS:
                    ask(points, others, way)
                with self.subTest(name=name):
                    self.assertEqual((points, others), before)

    def test_what_is_refused_stays_as_it_was(self):
        for name, ask in ASKED_BETWEEN + (ASKED_BELOW,):
            points, others = [(1, 2), (3, 4)], [(5,), (6,)]
            with self.assertRaises(NoPoints):
                ask(points, others, "streets")
            self.assertEqual((points, others), ([(1, 2), (3, 4)], [(5,), (6,)]))


class TwoBetween(unittest.TestCase):
    def test_one_of_each(self):
        self.assertEqual(two_between([(0, 0), (10, 10)], [(13, 14), (40, 40)], "streets"), (7, 1, 0))
        self.assertEqual(two_between([(0, 0), (10, 10)], [(13, 14), (40, 40)], "squares"), (25, 1, 0))
        self.assertEqual(two_between([(0,), (1,)], [(90,), (50,)], "streets"), (49, 1, 1))

    def test_places_of_either_list_need_not_rise(self):
        self.assertEqual(two_between([(9,), (8,), (5,)], [(4,), (0,)], "streets"), (1, 2, 0))
        self.assertEqual(two_between([(4,), (0,)], [(9,), (8,), (5,)], "streets"), (1, 0, 2))

    def test_the_same_list_twice(self):
        for way in WAYS:
            self.assertEqual(two_between([(5, 5), (6, 6)], [(5, 5), (6, 6)], way), (0, 0, 0))
            self.assertEqual(two_between([(5, 5), (6, 6)], [(6, 6), (5, 5)], way), (0, 0, 1))

    def test_the_first_of_equally_near_ones(self):
        self.assertEqual(two_between([(3,), (0,), (7,)], [(5,), (1,), (8,), (6,)], "squares"), (1, 1, 1))
        self.assertEqual(two_between([(2,), (2,)], [(9,), (3,), (1,)], "streets"), (1, 0, 1))
        self.assertEqual(two_between([(5,), (1,)], [(2,), (6,), (4,), (0,)], "streets"), (1, 0, 1))

    def test_as_going_through_all_pairs(self):
        for points, others in two_lists():
            for way in WAYS:
                with self.subTest(points=points, others=others, way=way):
                    pairs = plain_between(points, others, way)
                    told = two_between(points, others, way)
                    self.assertEqual(told, pairs[0] if pairs else None)
                    if pairs:
                        self.assertIs(type(told), tuple)


class NearBetween(unittest.TestCase):
    def test_just_as_far_one_less_and_one_more(self):
        for way, far in (("streets", 7), ("squares", 25)):
            for bound, told in ((far - 1, []), (far, [(0, 0)]), (far + 1, [(0, 0)])):
                self.assertEqual(near_between([(0, 0)], [(3, 4)], way, bound), told)

    def test_a_bound_of_nought(self):
        for way in WAYS:
            told = near_between([(1,), (2,), (1,)], [(1,), (3,), (1,), (2,)], way, 0)
            self.assertEqual(told, [(0, 0), (0, 2), (1, 3), (2, 0), (2, 2)])
            self.assertEqual(near_between([(1,)], [(2,)], way, 0), [])

    def test_sorted_by_places_not_by_far(self):
        told = near_between([(9,), (0,), (4,)], [(5,), (0,), (9,)], "streets", 4)
        self.assertEqual(told, [(0, 0), (0, 2), (1, 1), (2, 0), (2, 1)])

    def test_as_going_through_all_pairs(self):
        for points, others in two_lists():
            for way in WAYS:
                pairs = plain_between(points, others, way)
                for bound in bounds_of([far for far, i, j in pairs]):
                    with self.subTest(points=points, others=others, way=way, bound=bound):
                        due = sorted((i, j) for far, i, j in pairs if far <= bound)
                        self.assertEqual(near_between(points, others, way, bound), due)

    def test_a_bound_below_nought_is_refused(self):
        for points, others in (([], []), ([(1,)], []), ([], [(1,)]), ([(1,)], [(1,)]), ([(1, 2)], [(3, 4)])):
            for way in WAYS:
                for bound in (-1, -2, -17, -10 ** 33):
                    with self.subTest(points=points, others=others, way=way, bound=bound):
                        with self.assertRaises(NoBound):
                            near_between(points, others, way, bound)

    def test_kinds_and_the_askers_own_list(self):
        points, others = spread(6, 2, 4, 1), spread(5, 2, 4, 2)
        told = near_between(points, others, "squares", 9)
        kept = list(told)
        self.assertIs(type(told), list)
        self.assertTrue(told and all(type(pair) is tuple for pair in told))
        told.clear()
        self.assertEqual(near_between(points, others, "squares", 9), kept)
        self.assertIs(type(near_between([], others, "squares", 9)), list)


class FarList(unittest.TestCase):
    def test_the_greatest_far_of_each_ones_nearest(self):
        self.assertEqual(far_list([(0,), (10,), (4,)], [(1,), (7,)], "streets"), (3, 1, 1))
        self.assertEqual(far_list([(0, 0), (9, 9)], [(0, 1), (3, 3)], "squares"), (72, 1, 1))

    def test_this_way_alone(self):
        points, others = [(0,), (2,)], [(0,), (100,), (3,)]
        self.assertEqual(far_list(points, others, "streets"), (1, 1, 2))
        self.assertEqual(far_list(others, points, "streets"), (98, 1, 1))

    def test_the_least_i_of_equally_far_ones(self):
        self.assertEqual(far_list([(5,), (0,), (10,), (0,)], [(5,)], "streets"), (5, 1, 0))
        self.assertEqual(far_list([(10,), (0,)], [(5,)], "squares"), (25, 0, 0))
        self.assertEqual(far_list([(0,), (20,), (5,)], [(25,), (3,), (6,)], "streets"), (5, 1, 0))

    def test_of_its_nearest_the_least_j(self):
        self.assertEqual(far_list([(5,)], [(30,), (8,), (2,), (8,)], "streets"), (3, 0, 1))
        self.assertEqual(far_list([(0, 0)], [(9, 9), (3, 4), (-5, 0), (0, 5)], "squares"), (25, 0, 1))

    def test_a_list_that_lies_in_the_other_is_nought_from_it(self):
        for way in WAYS:
            self.assertEqual(far_list([(4,), (7,)], [(1,), (7,), (4,), (7,)], way), (0, 0, 2))
            self.assertEqual(far_list([(4,)], [(4,), (4,)], way), (0, 0, 0))

    def test_as_going_through_all_pairs(self):
        for points, others in two_lists():
            for way in WAYS:
                with self.subTest(points=points, others=others, way=way):
                    told = far_list(points, others, way)
                    self.assertEqual(told, plain_far_list(points, others, way))
                    if points and others:
                        self.assertIs(type(told), tuple)


if __name__ == "__main__":
    unittest.main()
