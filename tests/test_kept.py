import unittest

from cases import GREAT, NOT_WAYS, WAYS, bounds_of, plain_far, spread
from closepoints.errors import NearError, NoBound, NoPlace, NoPoints, NoWay
from closepoints.kept import Kept


def plain_pairs_of_names(points, way):
    """Of a dict of points by their names, all pairs (far, name, name), sorted."""
    return sorted(
        (plain_far(way, points[one], points[other]), one, other) for one in points for other in points if one < other
    )


def plain_nearest(points, way, name):
    fars = [(plain_far(way, points[name], points[other]), other) for other in points if other != name]
    return min(fars) if fars else None


def all_told(kept):
    """All that the kept points tell, so that two moments can be held against one another."""
    names = kept.names()
    return (
        names, [kept.point(name) for name in names], kept.two(), [kept.nearest(name) for name in names],
        kept.near(0), kept.near(9), kept.near(10 ** 33),
    )


def steps(many, seed):
    """A row of numbers that look strewn, for what is done next."""
    return [number for (number,) in spread(many, 1, 10 ** 6, seed)]


def filled(way, points):
    kept = Kept(way, len(points[0]))
    for point in points:
        kept.put(point)
    return kept


class Making(unittest.TestCase):
    def test_begins_without_points(self):
        for way in WAYS:
            for count in (1, 2, 3):
                kept = Kept(way, count)
                self.assertEqual(kept.names(), [])
                self.assertIsNone(kept.two())
                for bound in (0, 1, 10 ** 33):
                    self.assertEqual(kept.near(bound), [])
                for name in (-1, 0, 1):
                    for ask in (kept.point, kept.nearest, kept.take):
                        with self.assertRaises(NoPlace):
                            ask(name)

    def test_another_count_of_numbers_is_refused(self):
        for way in WAYS:
            for count in (0, 4, 5, -1, -2, 10 ** 33, -10 ** 33):
                with self.subTest(way=way, count=count):
                    with self.assertRaises(NoPoints):
                        Kept(way, count)

    def test_another_text_is_refused(self):
        for way in NOT_WAYS:
            for count in (1, 2, 3):
                with self.subTest(way=way, count=count):
                    with self.assertRaises(NoWay):
                        Kept(way, count)

    def test_no_points_goes_ahead_of_no_way(self):
        for way in NOT_WAYS:
            for count in (0, 4, -1, 10 ** 33):
                with self.subTest(way=way, count=count):
                    with self.assertRaises(NoPoints):
                        Kept(way, count)

    def test_two_of_them_have_nothing_in_common(self):
        one = Kept("streets", 1)
        other = Kept("squares", 1)
        one.put((0,))
        one.put((3,))
        self.assertEqual(other.names(), [])
        self.assertEqual(other.put((7,)), 0)
        self.assertEqual(other.put((4,)), 1)
        self.assertEqual((one.two(), other.two()), ((3, 0, 1), (9, 0, 1)))
        other.take(0)
        self.assertEqual(one.names(), [0, 1])


class Names(unittest.TestCase):
    def test_from_nought_on(self):
        kept = Kept("streets", 2)
        told = [kept.put((5, 5)) for time in range(4)]
        self.assertEqual(told, [0, 1, 2, 3])
        self.assertTrue(all(type(name) is int for name in told))
        self.assertEqual(kept.names(), [0, 1, 2, 3])

    def test_never_used_again(self):
        kept = filled("streets", [(1,), (2,), (3,)])
        kept.take(2)
        self.assertEqual(kept.put((4,)), 3)
        kept.take(0)
        kept.take(3)
        kept.take(1)
        self.assertEqual(kept.names(), [])
        self.assertEqual(kept.put((2,)), 4)
        self.assertEqual(kept.names(), [4])

    def test_a_refused_put_uses_no_name(self):
        kept = Kept("streets", 2)
        for wrong in ((), (1,), (1, 2, 3), (1, 2, 3, 4)):
            with self.assertRaises(NoPoints):
                kept.put(wrong)
        self.assertEqual(kept.put((1, 2)), 0)

    def test_the_point_of_a_name(self):
        points = spread(8, 3, GREAT, 2)
        kept = filled("squares", points)
        self.assertEqual([kept.point(name) for name in range(8)], points)
        kept.take(3)
        self.assertEqual(kept.point(4), points[4])
        self.assertIs(type(kept.point(4)), tuple)

    def test_a_name_that_is_not_there_is_refused(self):
        kept = filled("streets", [(1, 2), (3, 4), (5, 6)])
        kept.take(1)
        before = all_told(kept)
        for name in (1, 3, 4, -1, -2, -3, 10 ** 33, -10 ** 33, 10 ** 34 - 1):
            for ask in (kept.point, kept.nearest, kept.take):
                with self.subTest(name=name, ask=ask.__name__):
                    with self.assertRaises(NoPlace):
                        ask(name)
        self.assertEqual(all_told(kept), before)

    def test_taken_twice_is_refused(self):
        kept = filled("streets", [(1,), (2,)])
        self.assertIsNone(kept.take(0))
        with self.assertRaises(NoPlace):
            kept.take(0)
        self.assertEqual(kept.names(), [1])


class Puts(unittest.TestCase):
    def test_another_count_of_numbers_is_refused_and_changes_nothing(self):
        for way in WAYS:
            for count in (1, 2, 3):
                for points in ([], spread(4, count, 9, 1)):
                    kept = Kept(way, count)
                    for point in points:
                        kept.put(point)
                    before = all_told(kept)
                    for wrong in ((), (1,), (1, 2), (1, 2, 3), (1, 2, 3, 4)):
                        if len(wrong) != count:
                            with self.subTest(way=way, count=count, wrong=wrong):
                                with self.assertRaises(NoPoints):
                                    kept.put(wrong)
                                self.assertEqual(all_told(kept), before)
                    self.assertEqual(kept.put((7,) * count), len(points))

    def test_the_count_stays_when_all_are_taken(self):
        kept = filled("streets", [(1, 2)])
        kept.take(0)
        with self.assertRaises(NoPoints):
            kept.put((1,))
        self.assertEqual(kept.put((1, 2)), 1)


class Told(unittest.TestCase):
    def test_of_one(self):
        for way in WAYS:
            kept = filled(way, [(4, 4)])
            self.assertIsNone(kept.two())
            self.assertIsNone(kept.nearest(0))
            self.assertEqual(kept.near(10 ** 33), [])

    def test_names_are_told_not_places(self):
        kept = filled("streets", [(0,), (50,), (10,), (51,), (13,)])
        self.assertEqual(kept.two(), (1, 1, 3))
        kept.take(0)
        self.assertEqual(kept.two(), (1, 1, 3))
        kept.take(3)
        self.assertEqual(kept.names(), [1, 2, 4])
        self.assertEqual(kept.two(), (3, 2, 4))
        self.assertEqual(kept.nearest(1), (37, 4))
        self.assertEqual(kept.nearest(2), (3, 4))
        self.assertEqual(kept.nearest(4), (3, 2))
        self.assertEqual(kept.near(37), [(1, 4), (2, 4)])
        self.assertEqual(kept.near(36), [(2, 4)])

    def test_by_squares(self):
        kept = filled("squares", [(9, 9), (0, 0), (3, 4), (-5, 0)])
        kept.take(0)
        self.assertEqual(kept.two(), (25, 1, 2))
        self.assertEqual(kept.nearest(1), (25, 2))
        self.assertEqual(kept.near(25), [(1, 2), (1, 3)])
        self.assertEqual(kept.near(24), [])

    def test_the_least_name_of_equally_near_ones(self):
        kept = filled("streets", [(5,), (7,), (3,), (5,), (7,)])
        kept.take(0)
        self.assertEqual(kept.nearest(3), (2, 1))
        self.assertEqual(kept.two(), (0, 1, 4))
        kept.take(1)
        self.assertEqual(kept.nearest(3), (2, 2))
        self.assertEqual(kept.two(), (2, 2, 3))

    def test_a_bound_below_nought_is_refused(self):
        for way in WAYS:
            for kept in (Kept(way, 2), filled(way, [(1, 2)]), filled(way, [(1, 2), (1, 2)])):
                before = all_told(kept)
                for bound in (-1, -2, -17, -10 ** 33):
                    with self.assertRaises(NoBound):
                        kept.near(bound)
                self.assertEqual(all_told(kept), before)

    def test_a_list_that_was_told_and_then_changed_changes_nothing(self):
        kept = filled("streets", [(1, 2), (3, 4), (5, 6)])
        before = all_told(kept)
        names = kept.names()
        names.reverse()
        names.append(99)
        pairs = kept.near(100)
        pairs.clear()
        self.assertEqual(all_told(kept), before)
        self.assertEqual(kept.put((0, 0)), 3)

    def test_a_list_that_was_told_stays_when_points_come_and_go(self):
        kept = filled("streets", [(1, 2), (3, 4), (5, 6)])
        names = kept.names()
        pairs = kept.near(100)
        kept.take(1)
        kept.put((9, 9))
        self.assertEqual(names, [0, 1, 2])
        self.assertEqual(pairs, [(0, 1), (0, 2), (1, 2)])

    def test_kinds(self):
        kept = filled("streets", [(1, 2), (3, 4), (5, 6)])
        self.assertEqual([type(kept.names()), type(kept.near(0)), type(kept.near(9))], [list] * 3)
        self.assertEqual([type(kept.two()), type(kept.nearest(1)), type(kept.point(1))], [tuple] * 3)
        self.assertTrue(all(type(pair) is tuple for pair in kept.near(9)))
        numbers = list(kept.two() + kept.nearest(0) + kept.near(9)[0]) + kept.names()
        self.assertTrue(all(type(number) is int for number in numbers))
        self.assertIsNone(kept.take(1))


class AgainstThePlainList(unittest.TestCase):
    def check(self, kept, points, way):
        """The plain points are a dict by names, put in rising order."""
        self.assertEqual(kept.names(), list(points))
        pairs = plain_pairs_of_names(points, way)
        self.assertEqual(kept.two(), pairs[0] if pairs else None)
        for name in points:
            self.assertEqual(kept.point(name), points[name])
            self.assertEqual(kept.nearest(name), plain_nearest(points, way, name))
        for bound in bounds_of([far for far, one, other in pairs]):
            due = sorted((one, other) for far, one, other in pairs if far <= bound)
            self.assertEqual(kept.near(bound), due)

    def refuse_some(self, kept, count, ever):
        for ask in (
            lambda: kept.put((1,) * (count + 1)), lambda: kept.put((1,) * (count - 1)), lambda: kept.take(ever),
            lambda: kept.take(-1), lambda: kept.near(-1), lambda: kept.nearest(ever), lambda: kept.point(ever),
        ):
            with self.assertRaises(NearError):
                ask()

    def test_puts_and_takes_in_any_order(self):
        for way in WAYS:
            for count in (1, 2, 3):
                for width in (2, 30, GREAT):
                    with self.subTest(way=way, count=count, width=width):
                        kept = Kept(way, count)
                        points = {}
                        fresh = spread(60, count, width, count + width)
                        ever = 0
                        for step in steps(60, count * 7 + width):
                            if points and step % 5 < 2:
                                name = list(points)[step % len(points)]
                                self.assertIsNone(kept.take(name))
                                points.pop(name)
                            else:
                                self.assertEqual(kept.put(fresh[ever]), ever)
                                points[ever] = fresh[ever]
                                ever += 1
                            self.refuse_some(kept, count, ever)
                            self.check(kept, points, way)

    def test_sixty_at_a_time_and_two_hundred_and_one_ever_put(self):
        for way in WAYS:
            fresh = spread(201, 2, 40, 12)
            kept = Kept(way, 2)
            points = {}
            for ever, step in enumerate(steps(201, 5)):
                if len(points) == 60:
                    name = list(points)[step % 60]
                    kept.take(name)
                    points.pop(name)
                self.assertEqual(kept.put(fresh[ever]), ever)
                points[ever] = fresh[ever]
                if ever % 40 == 0 or ever == 59:
                    self.check(kept, points, way)
            self.assertEqual((len(points), max(points)), (60, 200))
            self.check(kept, points, way)
            for name in sorted(points, key=lambda name: name * 7 % 61):
                kept.take(name)
                points.pop(name)
                if len(points) in (30, 2, 1, 0):
                    self.check(kept, points, way)


if __name__ == "__main__":
    unittest.main()
