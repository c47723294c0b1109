"""The promise of the whole, over all modules together."""

import unittest

from cases import GREAT, WAYS, bounds_of, plain_pairs, spread, strewn
from closepoints.between import far_list, near_between, two_between
from closepoints.cells import cells_paper, cells_show, greatest_bound
from closepoints.desk import Desk
from closepoints.errors import NearError, NoPaper
from closepoints.far import farthest_of, farthest_two, middle, most_near, sums_place
from closepoints.kept import Kept
from closepoints.near import how_many_near, most_apart, near_counts, near_pairs, so_manieth_pair
from closepoints.nearest import mutual, nearest_all, nearest_of, nearest_to, nearest_two
from closepoints.parts import bound_for_all, bound_for_parts, least_tree, parts_within
from closepoints.points import all_pairs, how_far
from closepoints.texts import points_text, read_points
from closepoints.turned import exchanged, mirrored, moved, moved_by, times

# Those that tell a far ahead of places, and those that tell a far alone, of points and a way.
TELL_FARS_AHEAD = (nearest_two, farthest_two, middle, sums_place)
TELL_FARS_ALONE = (greatest_bound, bound_for_all)
TELL_LISTS_OF_FARS = (all_pairs, nearest_all, least_tree)
ASKED_BY_BOUND = (near_pairs, how_many_near, near_counts, parts_within, most_near)


def turned_ways(points):
    """The points moved, mirrored and exchanged in many ways, and several of these one behind the other."""
    count = len(points[0])
    found = [moved(points, by[:count]) for by in ((1, 0, -5), (0, 0, 0), (-GREAT, 7, GREAT))]
    found += [mirrored(points, number) for number in range(count)]
    found += [exchanged(points, one, other) for one in range(count) for other in range(count)]
    found.append(moved(mirrored(exchanged(points, 0, count - 1), count - 1), (3, 1, 4)[:count]))
    return found


def some_bounds(points, way):
    return bounds_of([far for far, i, j in plain_pairs(points, way)])


def some_points():
    return [points for points in strewn() if 0 < len(points) <= 14]


def times_far(told, many):
    """A tuple (far, ..) with as many times the far, or None."""
    return None if told is None else (told[0] * many,) + told[1:]


def words(told):
    return "none" if told is None else " ".join(str(number) for number in told)


class Turned(unittest.TestCase):
    def test_what_is_told_of_points_alone_stays(self):
        for points in some_points():
            for other in turned_ways(points):
                for way in WAYS:
                    for ask in TELL_FARS_AHEAD + TELL_FARS_ALONE + TELL_LISTS_OF_FARS + (mutual,):
                        with self.subTest(points=points, other=other, way=way, ask=ask.__name__):
                            self.assertEqual(ask(other, way), ask(points, way))

    def test_what_is_told_of_a_place_or_a_number_stays(self):
        for points in some_points():
            for other in turned_ways(points):
                for way in WAYS:
                    with self.subTest(points=points, other=other, way=way):
                        for place in range(len(points)):
                            self.assertEqual(farthest_of(other, way, place), farthest_of(points, way, place))
                            self.assertEqual(nearest_of(other, way, place), nearest_of(points, way, place))
                            self.assertEqual(how_far(other, way, 0, place), how_far(points, way, 0, place))
                        for number in (1, 2, len(points), 91, 92):
                            self.assertEqual(bound_for_parts(other, way, number), bound_for_parts(points, way, number))
                            self.assertEqual(so_manieth_pair(other, way, number), so_manieth_pair(points, way, number))

    def test_what_is_told_by_a_bound_stays(self):
        for points in some_points():
            for way in WAYS:
                bounds = some_bounds(points, way)[::3]
                for other in turned_ways(points):
                    for bound in bounds:
                        for ask in ASKED_BY_BOUND:
                            with self.subTest(points=points, other=other, way=way, bound=bound, ask=ask.__name__):
                                self.assertEqual(ask(other, way, bound), ask(points, way, bound))
                    if len(points) < 8:
                        for bound in bounds:
                            self.assertEqual(most_apart(other, way, bound), most_apart(points, way, bound))

    def test_papers_are_there_for_the_same_bounds(self):
        for points in some_points():
            for way in WAYS:
                greatest = greatest_bound(points, way)
                if greatest is not None:
                    for other in turned_ways(points) + [points]:
                        with self.subTest(points=points, other=other, way=way):
                            self.assertTrue(cells_show(other, way, greatest, cells_paper(other, way, greatest)))
                            with self.assertRaises(NoPaper):
                                cells_paper(other, way, greatest + 1)

    def test_two_lists_that_are_turned_alike(self):
        for count in (1, 2, 3):
            for width in (2, 30, GREAT):
                points, others = spread(7, count, width, 1), spread(9, count, width, 2)
                for way in WAYS:
                    for turned, turned_others in zip(turned_ways(points), turned_ways(others)):
                        for ask in (two_between, far_list):
                            self.assertEqual(ask(turned, turned_others, way), ask(points, others, way))
                        for bound in (0, 1, width, width * width):
                            self.assertEqual(near_between(turned, turned_others, way, bound),
                                             near_between(points, others, way, bound))
                        self.assertEqual(nearest_to(turned, way, turned_others[0]), nearest_to(points, way, others[0]))

    def test_points_moved_are_known_again(self):
        for points in some_points():
            for by in ((1, 0, -5), (0, 0, 0), (-GREAT, 7, GREAT)):
                by = by[:len(points[0])]
                self.assertEqual(moved_by(points, moved(points, by)), by)
                self.assertEqual(moved_by(moved(points, by), points), tuple(-number for number in by))


class Times(unittest.TestCase):
    def factors(self):
        return [(way, many, many if way == "streets" else many * many) for way in WAYS for many in (1, 2, 7, GREAT)]

    def test_fars_are_as_many_times_as_much(self):
        for points in some_points():
            for way, many, more in self.factors():
                other = times(points, many)
                with self.subTest(points=points, way=way, many=many):
                    for ask in TELL_FARS_AHEAD:
                        self.assertEqual(ask(other, way), times_far(ask(points, way), more))
                    for ask in TELL_FARS_ALONE:
                        told = ask(points, way)
                        self.assertEqual(ask(other, way), None if told is None else told * more)
                    for ask in TELL_LISTS_OF_FARS:
                        self.assertEqual(ask(other, way), [times_far(told, more) for told in ask(points, way)])
                    for place in range(len(points)):
                        due = times_far(farthest_of(points, way, place), more)
                        self.assertEqual(farthest_of(other, way, place), due)
                    for number in (1, 2, 3):
                        due = bound_for_parts(points, way, number) * more
                        self.assertEqual(bound_for_parts(other, way, number), due)
                    self.assertEqual(mutual(other, way), mutual(points, way))

    def test_by_bounds_as_many_times_as_much(self):
        for points in some_points():
            for way, many, more in self.factors():
                other = times(points, many)
                for bound in some_bounds(points, way)[::3]:
                    for ask in ASKED_BY_BOUND:
                        with self.subTest(points=points, way=way, many=many, bound=bound, ask=ask.__name__):
                            # Up to one less than the next bound nothing comes in.
                            for great in (bound * more, bound * more + more - 1):
                                self.assertEqual(ask(other, way, great), ask(points, way, bound))

    def test_two_lists(self):
        points, others = spread(7, 2, 30, 1), spread(9, 2, 30, 2)
        for way, many, more in self.factors():
            for ask in (two_between, far_list):
                told = ask(times(points, many), times(others, many), way)
                self.assertEqual(told, times_far(ask(points, others, way), more))


class TheDesk(unittest.TestCase):
    def check(self, desk, kept, way):
        """What the desk tells, against the plain functions, of the points in rising order of their names."""
        names = kept.names()
        points = [kept.point(name) for name in names]
        self.assertEqual(desk.say("points"), points_text(points))
        self.assertEqual(read_points(desk.say("points")), points)
        two = nearest_two(points, way)
        self.assertEqual(desk.say("two"), words(two and (two[0], names[two[1]], names[two[2]])))
        for place, name in enumerate(names):
            near = nearest_of(points, way, place)
            self.assertEqual(desk.say(f"near {name}"), words(near and (near[0], names[near[1]])))
        for bound in [bound for bound in some_bounds(points, way) if bound < 10 ** 30]:
            pairs = [f"{names[i]}-{names[j]}" for i, j in near_pairs(points, way, bound)]
            self.assertEqual(desk.say(f"pairs {bound}"), " ".join(pairs) if pairs else "none")
            self.assertEqual(desk.say(f"parts {bound}"), str(len(parts_within(points, way, bound))))
        bound = bound_for_all(points, way)
        self.assertEqual(desk.say("tree"), "none" if bound is None else str(bound))

    def test_tells_what_the_plain_functions_tell(self):
        for way in WAYS:
            for count in (1, 2, 3):
                for width in (2, 30, GREAT):
                    with self.subTest(way=way, count=count, width=width):
                        desk, kept = Desk(), Kept(way, count)
                        desk.say(f"by {way} {count}")
                        fresh = spread(60, count, width, count + width)
                        for (step,) in spread(24, 1, 10 ** 6, count * 7 + width):
                            self.one_step(desk, kept, fresh, step)
                            self.check(desk, kept, way)

    def one_step(self, desk, kept, fresh, step):
        names = kept.names()
        if names and step % 5 < 3:
            name = names[step % len(names)]
            kept.take(name)
            self.assertEqual(desk.say(f"take {name}"), str(len(names) - 1))
        else:
            points = [fresh.pop() for time in range(1 + step % 4) if fresh]
            if points:
                told = [kept.put(point) for point in points]
                self.assertEqual(desk.say(f"put {points_text(points)}"), words(told))
        for wrong in ("take 999", "put 1,2,3,4", "put", "by streets 4", "pairs -1"):
            with self.assertRaises(NearError):
                desk.say(wrong)

    def test_turned_points_tell_the_same_but_for_the_points(self):
        points = spread(9, 2, 30, 3)
        rows = ["two", "tree", "pairs 20", "parts 20", "near 0", "near 8", "take 4", "two", "tree", "pairs 400"]
        for way in WAYS:
            told = []
            for some in [points] + turned_ways(points)[:2] + [mirrored(points, 1), exchanged(points, 0, 1)]:
                desk = Desk()
                desk.say(f"by {way} 2")
                desk.say(f"put {points_text(some)}")
                told.append([desk.say(row) for row in rows])
            self.assertEqual(told, [told[0]] * len(told))


class FarAndNear(unittest.TestCase):
    """What the modules tell of the same points fits together."""

    def test_first_and_last_of_all_pairs(self):
        for points in strewn():
            for way in WAYS:
                pairs = all_pairs(points, way)
                two = farthest_two(points, way)
                self.assertEqual(two and two[0], pairs[-1][0] if pairs else None)
                self.assertEqual(nearest_two(points, way), so_manieth_pair(points, way, 1))

    def test_how_far_a_list_is_from_one_point_is_the_farthest_of_it(self):
        for points in some_points():
            for way in WAYS:
                fars = [far_list(points, [point], way)[0] for point in points]
                self.assertEqual(middle(points, way), (min(fars), fars.index(min(fars))))

    def test_most_near_is_the_first_greatest_of_near_counts(self):
        for points in some_points():
            for way in WAYS:
                for bound in some_bounds(points, way):
                    counts = near_counts(points, way, bound)
                    self.assertEqual(most_near(points, way, bound), (max(counts), counts.index(max(counts))))

    def test_what_is_told_may_be_handed_in(self):
        points = read_points("0,1 -3,4 7,7")
        for way in WAYS:
            self.assertEqual(all_pairs(points, way), all_pairs([(0, 1), (-3, 4), (7, 7)], way))
        self.assertEqual(points_text(moved(points, (1, -1))), "1,0 -2,3 8,6")
        self.assertEqual(moved(points, moved_by(points, moved(points, (5, 6)))), [(5, 7), (2, 10), (12, 13)])
        kept = Kept("streets", 2)
        for point in times(points, 2):
            kept.put(point)
        self.assertEqual(kept.two(), (12, 0, 1))


if __name__ == "__main__":
    unittest.main()
