import copy
import unittest

from cases import GREAT, WAYS, bounds_of, plain_pairs, spread, strewn
from closepoints.errors import NoBound, NoNumber, NoPoints, NoWay
from closepoints.parts import bound_for_all, bound_for_parts, least_tree, parts_within


def reached(many, pairs, start):
    """All places that one comes to from one of them, by the pairs."""
    beside = {place: [] for place in range(many)}
    for i, j in pairs:
        beside[i].append(j)
        beside[j].append(i)
    found = {start}
    waiting = [start]
    while waiting:
        for place in beside[waiting.pop()]:
            if place not in found:
                found.add(place)
                waiting.append(place)
    return sorted(found)


def plain_parts(many, pairs):
    parts = []
    for place in range(many):
        if not any(place in part for part in parts):
            parts.append(reached(many, pairs, place))
    return parts


def parts_by_bound(points, way, bound):
    return plain_parts(len(points), [(i, j) for far, i, j in plain_pairs(points, way) if far <= bound])


def plain_tree(points, way):
    tree = []
    for far, i, j in plain_pairs(points, way):
        if j not in reached(len(points), [pair[1:] for pair in tree], i):
            tree.append((far, i, j))
    return tree


def plain_bound(points, way, many):
    """The first of nought and all fars at which there are so few parts; between two of them nothing changes."""
    for bound in sorted({0} | {far for far, i, j in plain_pairs(points, way)}):
        if len(parts_by_bound(points, way, bound)) <= many:
            return bound


class PartsWithin(unittest.TestCase):
    def test_of_none_and_of_one(self):
        for way in WAYS:
            for bound in (0, 5, 10 ** 33):
                self.assertEqual(parts_within([], way, bound), [])
                self.assertEqual(parts_within([(4, 4)], way, bound), [[0]])

    def test_one_comes_from_one_to_the_other_by_others(self):
        points = [(0,), (9,), (3,), (20,), (6,), (22,)]
        self.assertEqual(parts_within(points, "streets", 3), [[0, 1, 2, 4], [3, 5]])
        self.assertEqual(parts_within(points, "squares", 9), [[0, 1, 2, 4], [3, 5]])
        self.assertEqual(parts_within(points, "streets", 2), [[0], [1], [2], [3, 5], [4]])
        self.assertEqual(parts_within(points, "streets", 11), [[0, 1, 2, 3, 4, 5]])

    def test_a_bound_of_nought_joins_points_one_on_the_other(self):
        for way in WAYS:
            self.assertEqual(parts_within([(2,), (1,), (2,), (1,), (3,)], way, 0), [[0, 2], [1, 3], [4]])
            self.assertEqual(parts_within([(2,), (1,)], way, 0), [[0], [1]])

    def test_parts_by_their_least_places_each_rising(self):
        points = [(50,), (0,), (90,), (51,), (1,), (91,), (2,), (52,)]
        self.assertEqual(parts_within(points, "streets", 1), [[0, 3, 7], [1, 4, 6], [2, 5]])
        points = [(0,), (100,), (1,), (101,), (50,), (51,)]
        self.assertEqual(parts_within(points, "streets", 49), [[0, 1, 2, 3, 4, 5]])

    def test_late_places_join_early_parts(self):
        self.assertEqual(parts_within([(8,), (0,), (4,), (2,), (6,)], "streets", 2), [[0, 1, 2, 3, 4]])
        self.assertEqual(parts_within([(9,), (8,), (1,), (0,), (7,)], "streets", 1), [[0, 1, 4], [2, 3]])

    def test_each_pairs_far_and_one_less(self):
        for points in (spread(7, 1, 40, 3), spread(9, 2, 6, 3), spread(8, 3, GREAT, 3)):
            for way in WAYS:
                for far, i, j in plain_pairs(points, way):
                    for bound in (far, far - 1, far + 1):
                        if bound >= 0:
                            with self.subTest(points=points, way=way, bound=bound):
                                due = parts_by_bound(points, way, bound)
                                self.assertEqual(parts_within(points, way, bound), due)

    def test_as_going_through_all_pairs(self):
        for points in strewn() + [spread(150, 2, 60, 5), spread(150, 1, 400, 5)]:
            for way in WAYS:
                fars = [far for far, i, j in plain_tree(points, way)] if len(points) < 15 else [1, 2, 9, 10, 25]
                for bound in bounds_of(fars):
                    with self.subTest(points=points, way=way, bound=bound):
                        self.assertEqual(parts_within(points, way, bound), parts_by_bound(points, way, bound))

    def test_a_long_row_hangs_together(self):
        points = [(place * 37 % 150,) for place in range(150)]
        self.assertEqual(parts_within(points, "streets", 1), [list(range(150))])
        self.assertEqual(parts_within(points, "streets", 0), [[place] for place in range(150)])

    def test_a_bound_below_nought_is_refused(self):
        for points in ([], [(1,)], spread(9, 2, 3, 1), spread(60, 3, 9, 1)):
            for way in WAYS:
                for bound in (-1, -2, -17, -10 ** 33):
                    with self.subTest(points=points, way=way, bound=bound):
                        with self.assertRaises(NoBound):
                            parts_within(points, way, bound)

    def test_lists_of_lists_that_are_the_askers_own(self):
        points = [(0,), (5,), (1,)]
        told = parts_within(points, "streets", 1)
        self.assertEqual([type(told)] + [type(part) for part in told], [list, list, list])
        told[0].append(9)
        told.pop()
        self.assertEqual(parts_within(points, "streets", 1), [[0, 2], [1]])
        self.assertEqual(points, [(0,), (5,), (1,)])


class LeastTree(unittest.TestCase):
    def test_of_none_and_of_one(self):
        for way in WAYS:
            self.assertEqual(least_tree([], way), [])
            self.assertEqual(least_tree([(4, 4)], way), [])

    def test_in_the_order_taken(self):
        points = [(0,), (10,), (1,), (13,)]
        self.assertEqual(least_tree(points, "streets"), [(1, 0, 2), (3, 1, 3), (9, 1, 2)])
        self.assertEqual(least_tree(points, "squares"), [(1, 0, 2), (9, 1, 3), (81, 1, 2)])

    def test_a_pair_that_hangs_together_already_is_left(self):
        self.assertEqual(least_tree([(0, 0), (0, 1), (1, 0), (1, 1)], "streets"), [(1, 0, 1), (1, 0, 2), (1, 1, 3)])
        self.assertEqual(least_tree([(7,)] * 4, "squares"), [(0, 0, 1), (0, 0, 2), (0, 0, 3)])

    def test_as_taken_from_all_pairs_one_by_one(self):
        for points in strewn():
            for way in WAYS:
                with self.subTest(points=points, way=way):
                    told = least_tree(points, way)
                    self.assertEqual(told, plain_tree(points, way))
                    self.assertEqual(len(told), max(0, len(points) - 1))

    def test_of_many_points(self):
        for way in WAYS:
            points = spread(150, 2, 50, 9)
            told = least_tree(points, way)
            self.assertEqual(len(told), 149)
            self.assertEqual(told, sorted(told))
            self.assertEqual(plain_parts(150, [pair[1:] for pair in told]), [list(range(150))])
            self.assertTrue(all(i < j for far, i, j in told))
            self.assertEqual(told, plain_tree(points, way))

    def test_a_list_of_tuples_that_is_the_askers_own(self):
        points = [(0,), (10,), (1,)]
        told = least_tree(points, "streets")
        self.assertEqual([type(told)] + [type(pair) for pair in told], [list, tuple, tuple])
        told.reverse()
        self.assertEqual(least_tree(points, "streets"), [(1, 0, 2), (9, 1, 2)])
        self.assertEqual(points, [(0,), (10,), (1,)])


class BoundForAll(unittest.TestCase):
    def test_of_none_and_of_one(self):
        for way in WAYS:
            self.assertIsNone(bound_for_all([], way))
            for point in ((4,), (4, 5), (4, 5, 6)):
                told = bound_for_all([point], way)
                self.assertEqual(told, 0)
                self.assertIs(type(told), int)

    def test_of_points_one_on_the_other(self):
        for way in WAYS:
            self.assertEqual(bound_for_all([(3, 3)] * 5, way), 0)

    def test_of_many(self):
        points = [(0,), (10,), (1,), (13,)]
        self.assertEqual(bound_for_all(points, "streets"), 9)
        self.assertEqual(bound_for_all(points, "squares"), 81)
        self.assertEqual(bound_for_all([(GREAT,), (-GREAT,)], "squares"), 4 * GREAT * GREAT)

    def test_the_least_bound_at_which_all_hang_together(self):
        for points in strewn() + [spread(150, 2, 50, 9)]:
            for way in WAYS:
                if points:
                    with self.subTest(points=points, way=way):
                        bound = bound_for_all(points, way)
                        self.assertEqual(len(parts_by_bound(points, way, bound)), 1)
                        if bound > 0:
                            self.assertGreater(len(parts_by_bound(points, way, bound - 1)), 1)


class BoundForParts(unittest.TestCase):
    def test_one_two_and_as_many_as_there_are_and_more(self):
        points = [(0,), (10,), (1,), (13,)]
        told = [bound_for_parts(points, "streets", many) for many in (1, 2, 3, 4, 5, 10 ** 33)]
        self.assertEqual(told, [9, 3, 1, 0, 0, 0])
        told = [bound_for_parts(points, "squares", many) for many in (1, 2, 3, 4, 5, 10 ** 33)]
        self.assertEqual(told, [81, 9, 1, 0, 0, 0])

    def test_of_none_and_of_one(self):
        for way in WAYS:
            for points in ([], [(7, 7)]):
                for many in (1, 2, 10 ** 33):
                    told = bound_for_parts(points, way, many)
                    self.assertEqual(told, 0)
                    self.assertIs(type(told), int)

    def test_several_parts_that_join_at_one_bound(self):
        points = [(0,), (5,), (10,), (15,)]
        told = [bound_for_parts(points, "streets", many) for many in (1, 2, 3, 4)]
        self.assertEqual(told, [5, 5, 5, 0])

    def test_points_one_on_the_other_never_are_more(self):
        for way in WAYS:
            self.assertEqual(bound_for_parts([(1,), (2,), (1,), (2,)], way, 2), 0)
            self.assertEqual(bound_for_parts([(1,), (2,), (1,), (2,)], way, 1), 1)

    def test_as_going_through_all_bounds(self):
        for points in strewn():
            if len(points) < 15:
                for way in WAYS:
                    for many in range(1, len(points) + 3):
                        with self.subTest(points=points, way=way, many=many):
                            self.assertEqual(bound_for_parts(points, way, many), plain_bound(points, way, many))

    def test_of_many_points(self):
        points = spread(150, 2, 50, 9)
        for way in WAYS:
            self.assertEqual(bound_for_parts(points, way, 1), bound_for_all(points, way))
            for many in (1, 2, 3, 40, 149, 150):
                bound = bound_for_parts(points, way, many)
                self.assertLessEqual(len(parts_by_bound(points, way, bound)), many)
                if bound > 0:
                    self.assertGreater(len(parts_by_bound(points, way, bound - 1)), many)

    def test_a_number_below_one_is_refused(self):
        for points in ([], [(1,)], spread(9, 2, 3, 1), spread(60, 3, 9, 1)):
            for way in WAYS:
                for many in (0, -1, -2, -9, -10 ** 33):
                    with self.subTest(points=points, way=way, many=many):
                        with self.assertRaises(NoNumber):
                            bound_for_parts(points, way, many)


class Refusals(unittest.TestCase):
    def test_the_order(self):
        asked = (
            lambda points, way: parts_within(points, way, -1),
            lambda points, way: parts_within(points, way, 3),
            lambda points, way: bound_for_parts(points, way, 0),
            lambda points, way: bound_for_parts(points, way, 1),
            least_tree,
            bound_for_all,
        )
        for number, ask in enumerate(asked):
            with self.subTest(number=number):
                for points in ([()], [(1,), (1, 2)], [(1, 2, 3, 4)]):
                    before = copy.deepcopy(points)
                    for way in ("streets", "street"):
                        with self.assertRaises(NoPoints):
                            ask(points, way)
                    self.assertEqual(points, before)
                for points in ([], [(1,)], [(1,), (2,)]):
                    with self.assertRaises(NoWay):
                        ask(points, "street")


if __name__ == "__main__":
    unittest.main()
