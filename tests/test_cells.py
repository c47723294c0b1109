import copy
import math
import unittest

from cases import GREAT, WAYS, bounds_of, plain_far, plain_pairs, spread, strewn
from closepoints.cells import cell_of, cells_paper, cells_show, greatest_bound
from closepoints.errors import NoBound, NoPaper, NoPoints, NoWay

BELOW_ONE = (0, -1, -2, -17, -10 ** 33)


def plain_cell(point, side):
    return tuple((number - number % side) // side for number in point)


def side_enough(way, side, bound):
    return side >= 1 and (side if way == "streets" else side ** 2) >= bound


def neighbours(cell, other):
    return all(-1 <= here - there <= 1 for here, there in zip(cell, other))


def plain_shows(points, way, bound, paper):
    """Word by word, for papers of the right form: a side, and tuples of a cell and a list of places."""
    side, cells = paper
    names = [cell for cell, places in cells]
    if not side_enough(way, side, bound) or names != sorted(set(names)):
        return False
    if any(not places or places != sorted(set(places)) for cell, places in cells):
        return False
    if sorted(place for cell, places in cells for place in places) != list(range(len(points))):
        return False
    if any(plain_cell(points[place], side) != cell for cell, places in cells for place in places):
        return False
    homes = {place: cell for cell, places in cells for place in places}
    return not any(
        neighbours(homes[i], homes[j]) and plain_far(way, points[i], points[j]) < bound
        for i in homes for j in homes if i < j
    )


def plain_paper(points, side):
    homes = {}
    for place, point in enumerate(points):
        homes.setdefault(plain_cell(point, side), []).append(place)
    return (side, sorted(homes.items()))


def spoiled(paper):
    """The paper with one thing made wrong, in each way and at each cell; none of these is right."""
    side, cells = paper
    found = []
    for k, (cell, places) in enumerate(cells):
        ahead, behind = cells[:k], cells[k + 1:]
        found.append(ahead + behind)
        found.append(ahead + [cells[k], cells[k]] + behind)
        found.append(ahead + [(cell, [])] + behind)
        found.append(ahead + [(cell, places[1:])] + behind)
        found.append(ahead + [(cell, places[:-1])] + behind)
        found.append(ahead + [(cell, places[:1] + places)] + behind)
        found.append(ahead + [(cell, places + places[-1:])] + behind)
        found.append(ahead + [(cell, places + [99])] + behind)
        found.append(ahead + [(cell, [-1] + places)] + behind)
        found.append(ahead + [(cell, [place - 99 for place in places])] + behind)
        found.append(ahead + [(cell, [place + 99 for place in places])] + behind)
        found.append(ahead + [(cell[:-1], places)] + behind)
        found.append(ahead + [(cell + (0,), places)] + behind)
        found.append(ahead + [((), places)] + behind)
        found.append(ahead + [(cell[:-1] + (cell[-1] + 1,), places)] + behind)
        found.append(ahead + [(cell[:-1] + (cell[-1] - 1,), places)] + behind)
        found.append(sorted(ahead + [(tuple(number + 10 ** 20 for number in cell), places)] + behind))
        found.append(sorted(cells + [(tuple(number + 10 ** 20 for number in cell), places)]))
        found.append(sorted(cells + [(tuple(number + 10 ** 20 for number in cell), [])]))
        if len(places) > 1:
            found.append(ahead + [(cell, places[::-1])] + behind)
            found.append(ahead + [(cell, places[:1]), (cell, places[1:])] + behind)
        if behind:
            found.append(behind + ahead + [cells[k]])
            after, more = behind[0]
            found.append(ahead + [(cell, more), (after, places)] + behind[1:])
            found.append(ahead + [(cell, sorted(places + more))] + behind[1:])
            found.append(ahead + [(cell, places), (after, sorted(places + more))] + behind[1:])
            found.append(ahead + [(cell, places[:-1]), (after, sorted(places[-1:] + more))] + behind[1:])
    return [(side, wrong) for wrong in found]


class CellOf(unittest.TestCase):
    def test_one_two_and_three_numbers(self):
        self.assertEqual(cell_of((7,), 3), (2,))
        self.assertEqual(cell_of((7, 9), 3), (2, 3))
        self.assertEqual(cell_of((7, 9, 2), 3), (2, 3, 0))

    def test_rounded_down_above_and_below_nought(self):
        told = [cell_of((number,), 3) for number in range(-7, 8)]
        due = [-3, -2, -2, -2, -1, -1, -1, 0, 0, 0, 1, 1, 1, 2, 2]
        self.assertEqual(told, [(number,) for number in due])
        self.assertEqual(cell_of((-1, 0, -10), 10), (-1, 0, -1))
        self.assertEqual(cell_of((-11, -9, 9), 10), (-2, -1, 0))

    def test_a_side_of_one_tells_the_point(self):
        for point in ((5,), (-5, 0), (GREAT, -GREAT, -1)):
            self.assertEqual(cell_of(point, 1), point)

    def test_great_numbers_and_sides(self):
        self.assertEqual(cell_of((GREAT, -GREAT), GREAT), (1, -1))
        self.assertEqual(cell_of((GREAT, -GREAT), GREAT + 1), (0, -1))
        self.assertEqual(cell_of((GREAT, -GREAT, 0), 10 ** 33), (0, -1, 0))
        self.assertEqual(cell_of((GREAT, -GREAT), 7), (GREAT // 7, -(GREAT // 7) - (1 if GREAT % 7 else 0)))

    def test_as_what_is_left_over_tells(self):
        for count in (1, 2, 3):
            for width in (20, GREAT):
                for point in spread(40, count, width, 3):
                    for side in (1, 2, 5, 7, 10 ** 6 + 3, GREAT):
                        self.assertEqual(cell_of(point, side), plain_cell(point, side))

    def test_a_side_below_one_is_refused(self):
        for point in ((4,), (4, -5), (0, 0, 0)):
            for side in BELOW_ONE:
                with self.subTest(point=point, side=side):
                    with self.assertRaises(NoBound):
                        cell_of(point, side)

    def test_what_is_no_point_is_refused_ahead_of_the_side(self):
        for point in ((), (1, 2, 3, 4)):
            for side in (3, 0, -1):
                with self.subTest(point=point, side=side):
                    with self.assertRaises(NoPoints):
                        cell_of(point, side)

    def test_a_tuple_of_whole_numbers_is_told(self):
        told = cell_of((4, -5, 6), 2)
        self.assertIs(type(told), tuple)
        self.assertTrue(all(type(number) is int for number in told))


class CellsShow(unittest.TestCase):
    def shows(self, points, way, bound, paper, due):
        before = copy.deepcopy((points, paper))
        with self.subTest(points=points, way=way, bound=bound, paper=paper):
            self.assertIs(cells_show(points, way, bound, paper), due)
            self.assertEqual((points, paper), before)

    def test_a_right_paper(self):
        points = [(0, 0), (9, 9), (4, 5), (-1, 8)]
        cells = [((-1, 0), [3]), ((0, 0), [0, 1, 2])]
        self.assertEqual(plain_paper(points, 10), (10, cells))
        self.shows(points, "streets", 8, (10, cells), True)
        self.shows(points, "squares", 34, (10, cells), True)

    def test_the_side_by_streets_just_great_enough_and_one_less(self):
        points = [(0, 0), (30, 30), (-30, 7)]
        for bound in (1, 2, 9, 10, 37):
            for side in range(1, bound + 4):
                self.shows(points, "streets", bound, plain_paper(points, side), side >= bound)

    def test_the_side_by_squares_just_great_enough_and_one_less(self):
        points = [(0, 0), (30, 30), (-30, 7)]
        for bound, least in ((1, 1), (2, 2), (4, 2), (5, 3), (9, 3), (10, 4), (24, 5), (25, 5), (26, 6), (949, 31)):
            for side in range(1, least + 4):
                self.shows(points, "squares", bound, plain_paper(points, side), side >= least)

    def test_great_sides(self):
        points = [(GREAT, -GREAT), (-GREAT, GREAT)]
        for root in (10 ** 15 + 1, 10 ** 14 + 7):
            for bound, least in ((root ** 2, root), (root ** 2 + 1, root + 1), (root ** 2 - 1, root)):
                self.shows(points, "squares", bound, plain_paper(points, least), True)
                self.shows(points, "squares", bound, plain_paper(points, least + 1), True)
                self.shows(points, "squares", bound, plain_paper(points, 10 ** 33), True)
                self.shows(points, "squares", bound, plain_paper(points, least - 1), False)
        self.shows(points, "streets", 4 * GREAT, plain_paper(points, 4 * GREAT), True)
        self.shows(points, "streets", 4 * GREAT, plain_paper(points, 4 * GREAT - 1), False)
        self.shows(points, "streets", 4 * GREAT + 1, plain_paper(points, 4 * GREAT + 1), False)

    def test_a_side_below_one(self):
        for way in WAYS:
            for side in BELOW_ONE:
                for bound in (1, 2, 4):
                    self.shows([], way, bound, (side, []), False)
                    self.shows([(3, 4)], way, bound, (side, [((0, 0), [0])]), False)
                    if side:
                        self.shows([(3, 4)], way, bound, (side, [((3 // side, 4 // side), [0])]), False)

    def test_two_that_are_nearer_in_one_cell_and_in_neighbouring_ones(self):
        for way, far in (("streets", 3), ("squares", 5)):
            for one, other in (((4, 5), (5, 7)), ((9, 5), (10, 3)), ((9, 9), (11, 10)), ((0, 0), (-1, -2)),
                               ((0, 9), (-2, 10)), ((-10, 3), (-11, 5)), ((19, 9), (18, 11))):
                for points in ([one, other], [other, one], [one, (55, 55), other], [(-40, 7), other, one, (70, 7)]):
                    paper = plain_paper(points, 10)
                    self.shows(points, way, far - 1, paper, True)
                    self.shows(points, way, far, paper, True)
                    self.shows(points, way, far + 1, paper, False)

    def test_points_one_on_the_other(self):
        points = [(5, 5, 5), (1, 1, 1), (5, 5, 5)]
        for way in WAYS:
            for bound in (1, 2, 10):
                self.shows(points, way, bound, plain_paper(points, 10), False)

    def test_no_points(self):
        for way in WAYS:
            for cells in ([((0, 0), [])], [((0,), [0])], [((), [])], [((0, 0, 0), [0, 1])], [((1,), [-1])]):
                self.shows([], way, 4, (10, cells), False)
        for side in (1, 2, 3, 4, 5, 10 ** 33):
            self.shows([], "streets", 4, (side, []), side >= 4)
            self.shows([], "squares", 4, (side, []), side >= 2)
            self.shows([], "squares", 5, (side, []), side >= 3)

    def test_points_with_a_paper_without_cells(self):
        for way in WAYS:
            self.shows([(1,)], way, 1, (5, []), False)

    def test_one_point(self):
        for way in WAYS:
            self.shows([(-3, 12)], way, 5, (5, [((-1, 2), [0])]), True)
            self.shows([(-3, 12)], way, 5, (5, [((0, 2), [0])]), False)
            self.shows([(-3, 12)], way, 5, (5, [((-1, 2), [1])]), False)
            self.shows([(-3, 12)], way, 5, (5, [((-1, 2), [-1])]), False)
            self.shows([(-3, 12)], way, 5, (5, [((-1, 2), [0, 0])]), False)

    def test_cells_of_another_side_than_the_papers(self):
        points = [(11, 0), (0, 11), (25, 25)]
        for way in WAYS:
            self.shows(points, way, 9, (10, plain_paper(points, 10)[1]), True)
            self.shows(points, way, 9, (12, plain_paper(points, 10)[1]), False)
            self.shows(points, way, 9, (10, plain_paper(points, 12)[1]), False)

    def test_what_has_not_the_form(self):
        points = [(2, 3), (50, 3)]
        cells = [((0, 0), [0]), ((5, 0), [1])]
        self.shows(points, "streets", 9, (10, cells), True)
        wrong = [
            (), (10,), (cells,), (10, cells, 10), (10, cells, cells), (cells, 10), (10, 10), (cells, cells),
            ([10], cells), ((10,), cells), ([], []), (10, tuple(cells)), (10, ()), ((10, cells),),
            (10, [cells]), (10, [10, 11]), (10, [(), ()]), (10, [[], []]), (10, [0]), (10, [[[[]]]]),
        ]
        for entry in (
            [(0, 0), [0]], ([0, 0], [0]), ((0, 0), (0,)), ((0, 0), 0), (0, [0]), ((0, 0),), ((0, 0), [0], [0]),
            ((0, 0), [0], 0), ((0, 0), [[0]]), ((0, 0), [(0,)]), ((0, 0), [()]), (((0,), 0), [0]), ((0, [0]), [0]),
            (((0, 0),), [0]), ([0], (0, 0)), (0, 0, [0]), ([], []), ((), ()), (), [], 0, ((0, 0), [[]]),
            ((0, 0), [0, []]), ((0, 0), [0, ()]), ((0, 0, ()), [0]), ((0, 0, []), [0]), ((0, ()), [0]),
        ):
            wrong += [(10, [entry, cells[1]]), (10, [entry]), (10, [cells[1], entry]), (10, cells + [entry])]
        for paper in wrong:
            self.shows(points, "streets", 9, paper, False)
            self.shows(points, "squares", 9, paper, False)
            if paper != (10, ()):
                self.shows([], "squares", 9, paper, False)
        self.shows([], "squares", 9, (10, ()), False)

    def test_a_list_in_the_place_of_the_paper(self):
        self.shows([], "streets", 9, [10, []], False)
        self.shows([(1,)], "streets", 9, [10, [((0,), [0])]], False)

    def test_truths_are_no_whole_numbers(self):
        self.shows([], "streets", 1, (True, []), False)
        self.shows([(0,)], "streets", 1, (1, [((False,), [0])]), False)
        self.shows([(0,)], "streets", 1, (1, [((0,), [False])]), False)
        self.shows([(0, 5)], "streets", 1, (1, [((False, 5), [0])]), False)
        self.shows([(0, 1), (9, 9)], "streets", 9, (10, [((0, 0), [0, True])]), False)

    def test_a_deep_paper_has_not_the_form(self):
        deep = ()
        for step in range(300):
            deep = (deep, [deep]) if step % 2 else (1, [deep])
        self.assertIs(cells_show([(1,)], "streets", 1, deep), False)

    def test_each_spoiled_paper_is_told(self):
        for points in ([(0,), (20,), (41,), (-20,)], spread(9, 2, 60, 4), spread(12, 3, 25, 7), spread(14, 1, 200, 3)):
            for way in WAYS:
                bound = greatest_bound(points, way)
                for side in (cells_paper(points, way, bound)[0], 10 ** 3):
                    paper = plain_paper(points, side)
                    self.shows(points, way, bound, paper, True)
                    for wrong in spoiled(paper):
                        self.assertFalse(plain_shows(points, way, bound, wrong))
                        self.shows(points, way, bound, wrong, False)

    def test_as_word_by_word(self):
        for points in strewn():
            for way in WAYS:
                for bound in [1, 2, 3, 4] + bounds_of([far for far, i, j in plain_pairs(points, way)][:4]):
                    if bound > 0:
                        root = math.isqrt(bound)
                        for side in sorted({1, max(1, root - 1), max(1, root), root + 1, bound, bound + 1}):
                            paper = plain_paper(points, side)
                            self.shows(points, way, bound, paper, plain_shows(points, way, bound, paper))

    def test_a_paper_that_is_let_by_shows_that_no_two_are_nearer(self):
        for points in strewn() + [spread(150, 2, 90, 3), spread(150, 3, 40, 3)]:
            for way in WAYS:
                pairs = plain_pairs(points, way)
                for bound in (1, 2, 3, 5, 9, 50):
                    for side in (bound, bound + 1, 3 * bound):
                        if cells_show(points, way, bound, plain_paper(points, side)):
                            self.assertTrue(not pairs or pairs[0][0] >= bound)
                        else:
                            self.assertLess(pairs[0][0], bound)

    def test_a_bound_below_one_is_refused_whatever_the_paper(self):
        for points in ([], [(1, 2)], [(1, 2), (30, 4)]):
            for way in WAYS:
                for bound in BELOW_ONE:
                    for paper in ((), (1, []), (0, []), plain_paper(points, 5)):
                        with self.subTest(points=points, way=way, bound=bound, paper=paper):
                            with self.assertRaises(NoBound):
                                cells_show(points, way, bound, paper)

    def test_the_order_of_refusals(self):
        for paper in ((), (1, []), (-1, [])):
            for bound in (0, 4):
                for way in ("street", "streets"):
                    with self.assertRaises(NoPoints):
                        cells_show([(1,), (2, 3)], way, bound, paper)
                with self.assertRaises(NoWay):
                    cells_show([(1,), (2,)], "street", bound, paper)


class CellsPaper(unittest.TestCase):
    def test_by_streets_the_side_is_the_bound(self):
        points = [(0, 0), (9, 9), (4, 5), (-1, 8)]
        self.assertEqual(cells_paper(points, "streets", 8), (8, [((-1, 1), [3]), ((0, 0), [0, 2]), ((1, 1), [1])]))
        self.assertEqual(cells_paper(points, "streets", 1)[0], 1)

    def test_by_squares_the_side_is_the_root_rounded_up(self):
        points = [(0, 0), (9, 9), (4, 5), (-1, 8)]
        self.assertEqual(cells_paper(points, "squares", 34), (6, [((-1, 1), [3]), ((0, 0), [0, 2]), ((1, 1), [1])]))
        for bound in range(1, 400):
            self.assertEqual(cells_paper([], "squares", bound), (math.isqrt(bound - 1) + 1, []))

    def test_squares_one_more_and_one_less(self):
        for root in (2, 3, 10, 999, 10 ** 8, 10 ** 15 - 1, 10 ** 15, 2 ** 53 + 1, 94906267, 10 ** 16 + 61):
            for points in ([], [(GREAT,)], [(1, -5, 3)]):
                with self.subTest(root=root, points=points):
                    self.assertEqual(cells_paper(points, "squares", root ** 2 - 1)[0], root)
                    self.assertEqual(cells_paper(points, "squares", root ** 2)[0], root)
                    self.assertEqual(cells_paper(points, "squares", root ** 2 + 1)[0], root + 1)

    def test_bounds_of_thirty_four_figures(self):
        for root in (10 ** 17 - 1, 99999999999999997, 31622776601683794, 77777777777777777):
            square = root ** 2
            self.assertEqual(len(str(square)), 34)
            points = [(GREAT, -GREAT)]
            self.assertEqual(cells_paper(points, "squares", square - 1), (root, [((0, -1), [0])]))
            self.assertEqual(cells_paper(points, "squares", square), (root, [((0, -1), [0])]))
            self.assertEqual(cells_paper(points, "squares", square + 1), (root + 1, [((0, -1), [0])]))
        self.assertEqual(cells_paper([], "squares", 10 ** 34 - 1), (10 ** 17, []))
        self.assertEqual(cells_paper([], "streets", 10 ** 34 - 1), (10 ** 34 - 1, []))

    def test_of_no_points_and_of_one(self):
        for way in WAYS:
            self.assertEqual(cells_paper([], way, 1), (1, []))
            self.assertEqual(cells_paper([(-7, 3)], way, 1), (1, [((-7, 3), [0])]))
        self.assertEqual(cells_paper([(-7, 3)], "streets", 4), (4, [((-2, 0), [0])]))
        self.assertEqual(cells_paper([(-7, 3)], "squares", 4), (2, [((-4, 1), [0])]))

    def test_just_as_far_is_not_refused_and_one_more_is(self):
        for points in ([(0, 0), (3, 4)], [(9,), (-5,), (40,)], [(0, 0, 0), (50, 0, 0), (1, 2, 2)], spread(60, 3, 40, 5)):
            for way in WAYS:
                far = plain_pairs(points, way)[0][0]
                for bound in (far, far - 1, 1):
                    if bound > 0:
                        paper = cells_paper(points, way, bound)
                        self.assertTrue(cells_show(points, way, bound, paper))
                for bound in (far + 1, far + 2, 10 ** 33):
                    with self.subTest(points=points, way=way, bound=bound):
                        with self.assertRaises(NoPaper):
                            cells_paper(points, way, bound)

    def test_points_one_on_the_other_have_no_paper(self):
        for way in WAYS:
            for bound in (1, 2, 100):
                with self.assertRaises(NoPaper):
                    cells_paper([(1, 1), (5, 5), (1, 1)], way, bound)

    def test_told_papers_are_right_with_the_least_side(self):
        for points in strewn() + [spread(150, 3, GREAT, 5), spread(150, 2, 10 ** 6, 5)]:
            for way in WAYS:
                far = greatest_bound(points, way)
                pairs = plain_pairs(points, way)
                bounds = [1, 5, 99] if not pairs else sorted({1, far // 2 + 1, far}) if far else []
                for bound in bounds:
                    with self.subTest(points=points, way=way, bound=bound):
                        side, cells = cells_paper(points, way, bound)
                        self.assertTrue(side_enough(way, side, bound))
                        self.assertFalse(side_enough(way, side - 1, bound))
                        self.assertEqual((side, cells), plain_paper(points, side))
                        self.assertTrue(plain_shows(points, way, bound, (side, cells)))
                        self.assertIs(cells_show(points, way, bound, (side, cells)), True)

    def test_a_bound_below_one_is_refused(self):
        for points in ([], [(1,)], [(1, 2), (1, 2)], spread(60, 3, 9, 1)):
            for way in WAYS:
                for bound in BELOW_ONE:
                    with self.subTest(points=points, way=way, bound=bound):
                        with self.assertRaises(NoBound):
                            cells_paper(points, way, bound)

    def test_the_other_refusals_go_ahead_of_no_paper(self):
        near = [(1, 2), (1, 2), (1, 3)]
        with self.assertRaises(NoPaper):
            cells_paper(near, "streets", 4)
        with self.assertRaises(NoBound):
            cells_paper(near, "streets", 0)
        for bound in (4, 0):
            with self.assertRaises(NoWay):
                cells_paper(near, "street", bound)
            for way in ("street", "streets"):
                with self.assertRaises(NoPoints):
                    cells_paper(near + [(1,)], way, bound)

    def test_kinds_and_that_nothing_is_changed_or_kept(self):
        for way in WAYS:
            points = [(0, 0), (9, 9), (4, 5), (-1, 8)]
            told = cells_paper(points, way, 8)
            self.assertEqual(points, [(0, 0), (9, 9), (4, 5), (-1, 8)])
            self.assertIs(type(told), tuple)
            self.assertEqual([type(part) for part in told], [int, list])
            for entry in told[1]:
                self.assertIs(type(entry), tuple)
                self.assertEqual([type(part) for part in entry], [tuple, list])
                self.assertTrue(all(type(number) is int for number in entry[0] + tuple(entry[1])))
            kept = copy.deepcopy(told)
            told[1][0][1].append(7)
            told[1].append("more")
            self.assertEqual(cells_paper(points, way, 8), kept)
            self.assertFalse(cells_show(points, way, 8, told))
            points.append((500, 500))
            self.assertTrue(cells_show(points[:4], way, 8, kept))
            self.assertFalse(cells_show(points, way, 8, kept))


class GreatestBound(unittest.TestCase):
    def test_fewer_than_two(self):
        for way in WAYS:
            for points in ([], [(3,)], [(3, 4)], [(3, 4, 5)]):
                self.assertIsNone(greatest_bound(points, way))

    def test_points_one_on_the_other(self):
        for way in WAYS:
            for points in ([(3,), (3,)], [(3, 4), (9, 9), (3, 4)], [(0, 0, 0)] * 5):
                self.assertIsNone(greatest_bound(points, way))

    def test_how_far_the_nearest_two_are(self):
        points = [(0, 0), (3, 4), (50, 50)]
        self.assertEqual(greatest_bound(points, "streets"), 7)
        self.assertEqual(greatest_bound(points, "squares"), 25)
        self.assertEqual(greatest_bound([(7,), (8,)], "squares"), 1)
        self.assertEqual(greatest_bound([(GREAT,), (-GREAT,)], "squares"), 4 * GREAT * GREAT)

    def test_there_is_a_paper_for_it_and_none_for_one_more(self):
        for points in strewn() + [spread(150, 2, GREAT, 5)]:
            for way in WAYS:
                pairs = plain_pairs(points, way)
                told = greatest_bound(points, way)
                with self.subTest(points=points, way=way):
                    if not pairs or pairs[0][0] == 0:
                        self.assertIsNone(told)
                    else:
                        self.assertEqual(told, pairs[0][0])
                        self.assertIs(type(told), int)
                        self.assertTrue(cells_show(points, way, told, cells_paper(points, way, told)))
                        with self.assertRaises(NoPaper):
                            cells_paper(points, way, told + 1)

    def test_the_order_of_refusals(self):
        with self.assertRaises(NoPoints):
            greatest_bound([(1,), (1, 2)], "street")
        for points in ([], [(1,)], [(1,), (1,)]):
            with self.assertRaises(NoWay):
                greatest_bound(points, "street")


if __name__ == "__main__":
    unittest.main()
