import unittest

from cases import GREAT, WAYS, spread
from closepoints.desk import Desk
from closepoints.errors import NearError, NoForm, NoneYet, NoPlace, NoPoints
from closepoints.texts import points_text

# A right row of each sort, for points of two numbers.
RIGHT = (
    "by streets 2", "by squares 2", "put 1,2", "put 1,2 -3,4", "take 0", "points", "two", "near 0", "pairs 5",
    "parts 5", "tree",
)

BOUND_ROWS = ("pairs", "parts")
NAME_ROWS = ("take", "near")
BARE_ROWS = ("points", "two", "tree")

# What has no form in the place of a number that is written by figures alone.
NO_FIGURES = (
    "", "00", "01", "000", "001", "010", "-0", "-1", "+1", "+0", "-", "+", "a", "1a", "a1", "1.0", "1,2", "1,", ",1",
    "1-2", "x", "none", "0x1", "1e2", "1_0", "0\n", "1\n", "\n1", "N", "B", "D", "*", "One",
)

# What has no form in the place of a point.
NO_POINTS_WRITTEN = (
    "", "none", "None", "00", "01,2", "1,02", "-0", "-0,1", "1,-0", "-01,2", ",", ",1", "1,", "1,,2", "-", "-,1", "+1",
    "1,+2", "--1,2", "a", "1,a", "1.5,2", "1000000000000000", "1,-1000000000000000", "1,2\n", "\n1,2", "1,\n2", "(1,2)",
    "1;2", "x,y", "P",
)


def said(rows):
    """A desk that was told the rows, one after the other."""
    desk = Desk()
    for row in rows:
        desk.say(row)
    return desk


def all_told(desk):
    """All that a desk tells without being changed by it."""
    rows = ["points", "two", "tree"]
    rows += [f"pairs {bound}" for bound in (0, 5, 9, 10 ** 29)]
    rows += [f"parts {bound}" for bound in (0, 5, 9, 10 ** 29)]
    told = [desk.say(row) for row in rows]
    for name in range(15):
        try:
            told.append(desk.say(f"near {name}"))
        except NoPlace:
            told.append(None)
    return told


class Case(unittest.TestCase):
    def refused(self, desk, row, kind):
        with self.subTest(row=row, kind=kind.__name__):
            with self.assertRaises(NearError) as taken:
                desk.say(row)
            self.assertIs(type(taken.exception), kind)

    def answers(self, desk, rows):
        for row, answer in rows:
            told = desk.say(row)
            with self.subTest(row=row):
                self.assertEqual(told, answer)
                self.assertIs(type(told), str)


class Rows(Case):
    def test_by(self):
        for way in WAYS:
            for count in (1, 2, 3):
                self.answers(Desk(), [(f"by {way} {count}", f"by {way} {count}")])

    def test_a_desk_in_a_plane_by_streets(self):
        self.answers(Desk(), [
            ("by streets 2", "by streets 2"),
            ("put 0,0 3,4 1,0", "0 1 2"),
            ("put -7,2", "3"),
            ("points", "0,0 3,4 1,0 -7,2"),
            ("two", "1 0 2"),
            ("near 0", "1 2"),
            ("near 1", "6 2"),
            ("near 3", "9 0"),
            ("pairs 6", "0-2 1-2"),
            ("pairs 7", "0-1 0-2 1-2"),
            ("pairs 0", "none"),
            ("parts 0", "4"),
            ("parts 1", "3"),
            ("parts 6", "2"),
            ("parts 9", "1"),
            ("tree", "9"),
            ("take 2", "3"),
            ("points", "0,0 3,4 -7,2"),
            ("two", "7 0 1"),
            ("near 3", "9 0"),
            ("pairs 12", "0-1 0-3 1-3"),
            ("tree", "9"),
            ("take 0", "2"),
            ("points", "3,4 -7,2"),
            ("two", "12 1 3"),
            ("near 1", "12 3"),
            ("pairs 12", "1-3"),
            ("parts 11", "2"),
            ("parts 12", "1"),
            ("tree", "12"),
        ])

    def test_a_desk_in_a_line_by_squares(self):
        self.answers(Desk(), [
            ("by squares 1", "by squares 1"),
            ("put 5 -5 9", "0 1 2"),
            ("points", "5 -5 9"),
            ("two", "16 0 2"),
            ("near 1", "100 0"),
            ("pairs 100", "0-1 0-2"),
            ("pairs 99", "0-2"),
            ("parts 15", "3"),
            ("parts 16", "2"),
            ("parts 100", "1"),
            ("tree", "100"),
        ])

    def test_a_desk_in_space(self):
        self.answers(Desk(), [
            ("by squares 3", "by squares 3"),
            ("put 1,2,3 -1,0,2", "0 1"),
            ("points", "1,2,3 -1,0,2"),
            ("two", "9 0 1"),
            ("near 0", "9 1"),
            ("tree", "9"),
        ])

    def test_nothing_to_tell_of_no_points(self):
        for rows in (["by streets 2"], ["by squares 1", "put 4 5", "take 0", "take 1"]):
            self.answers(said(rows), [
                ("points", "none"), ("two", "none"), ("pairs 0", "none"), ("pairs 99", "none"), ("tree", "none"),
                ("parts 0", "0"), ("parts 99", "0"),
            ])

    def test_of_one_point(self):
        for rows, name in ((["by streets 2", "put 4,4"], 0), (["by squares 2", "put 9,9 4,4", "take 0"], 1)):
            self.answers(said(rows), [
                ("points", "4,4"), ("two", "none"), (f"near {name}", "none"), ("pairs 99", "none"), ("tree", "0"),
                ("parts 0", "1"), ("parts 99", "1"),
            ])

    def test_take_tells_how_many_are_there_then(self):
        self.answers(said(["by streets 1", "put 1 2 3"]), [("take 1", "2"), ("take 2", "1"), ("take 0", "0")])

    def test_points_one_on_the_other(self):
        self.answers(said(["by squares 2", "put 4,4 4,4 9,9 4,4"]), [
            ("two", "0 0 1"), ("near 3", "0 0"), ("pairs 0", "0-1 0-3 1-3"), ("parts 0", "2"), ("tree", "50"),
        ])

    def test_the_least_name_of_equally_near_ones(self):
        desk = said(["by streets 1", "put 5 7 3 5 7", "take 0"])
        self.answers(desk, [("near 3", "2 1"), ("two", "0 1 4"), ("take 1", "3"), ("near 3", "2 2"), ("two", "2 2 3")])

    def test_great_numbers_are_told_to_the_last_figure(self):
        desk = said(["by squares 2", f"put {GREAT},-{GREAT} -{GREAT},{GREAT}"])
        far = 8 * GREAT * GREAT
        self.assertEqual(far, 7999999999999984000000000000008)
        self.answers(desk, [
            ("points", "999999999999999,-999999999999999 -999999999999999,999999999999999"),
            ("two", f"{far} 0 1"), ("near 1", f"{far} 0"), ("tree", f"{far}"), (f"pairs {10 ** 30 - 1}", "none"),
            (f"parts {10 ** 30 - 1}", "2"),
        ])
        desk = said(["by squares 2", "put 0,0 0,999999999999999"])
        far = GREAT * GREAT
        self.assertEqual(len(str(far)), 30)
        self.answers(desk, [(f"pairs {far}", "0-1"), (f"pairs {far - 1}", "none"), (f"parts {far}", "1")])


class Puts(Case):
    def test_one_to_ten_points(self):
        for many in range(1, 11):
            points = spread(many, 2, 9, many)
            desk = said(["by streets 2"])
            self.answers(desk, [
                (f"put {points_text(points)}", " ".join(str(name) for name in range(many))),
                ("points", points_text(points)),
                ("put 0,0", str(many)),
            ])

    def test_none_and_eleven_have_no_form(self):
        desk = said(["by streets 1"])
        for row in ("put", "put ", "put none", "put " + " ".join(["1"] * 11), "put " + " ".join(["1"] * 12)):
            self.refused(desk, row, NoForm)
        self.answers(desk, [("points", "none"), ("put 7", "0")])

    def test_another_count_of_numbers_puts_none(self):
        for count, wrong in ((1, "1,2"), (1, "1,2,3"), (2, "1"), (2, "1,2,3"), (3, "1"), (3, "1,2"), (3, "1,2,3,4"),
                             (1, "1,2,3,4"), (2, "1,2,3,4,5"), (2, "0,0,0,0")):
            right = ",".join(["7"] * count)
            desk = said([f"by streets {count}", f"put {right}"])
            before = all_told(desk)
            for row in (f"put {wrong}", f"put {right} {wrong}", f"put {wrong} {right}", f"put {wrong} {wrong}",
                        f"put {right} {right} {wrong} {right}", "put " + f"{right} " * 9 + wrong):
                self.refused(desk, row, NoPoints)
                self.assertEqual(all_told(desk), before)
            self.answers(desk, [(f"put {right} {right}", "1 2"), ("points", f"{right} {right} {right}")])

    def test_points_of_as_many_numbers_but_not_as_by_says_are_refused(self):
        desk = said(["by streets 2"])
        for row in ("put 1", "put 1 2", "put 1,2,3 4,5,6"):
            self.refused(desk, row, NoPoints)
        self.answers(desk, [("put 1,2", "0")])

    def test_what_is_no_point_has_no_form(self):
        desk = said(["by streets 2", "put 7,7"])
        before = all_told(desk)
        for wrong in NO_POINTS_WRITTEN:
            for row in (f"put {wrong}", f"put 1,2 {wrong}", f"put {wrong} 1,2", f"put 1,2 {wrong} 3,4"):
                self.refused(desk, row, NoForm)
        self.assertEqual(all_told(desk), before)
        self.answers(desk, [("put 1,2", "1")])

    def test_fifteen_figures_are_taken(self):
        desk = said(["by streets 1"])
        self.answers(desk, [("put 999999999999999 -999999999999999 0", "0 1 2"), ("two", "999999999999999 0 2")])

    def test_names_are_never_used_again(self):
        self.answers(said(["by streets 1", "put 1 2 3"]), [
            ("take 2", "2"), ("put 4", "3"), ("take 0", "2"), ("take 3", "1"), ("take 1", "0"), ("put 5 6", "4 5"),
            ("points", "5 6"), ("near 5", "1 4"), ("take 5", "1"), ("put 6", "6"),
        ])

    def test_points_come_in_the_order_of_their_names(self):
        rows = ["by streets 1"] + [f"put {number}" for number in range(30, 0, -2)]
        desk = said(rows + ["take 3", "take 9", "put 99"])
        self.answers(desk, [("points", "30 28 26 22 20 18 16 14 10 8 6 4 2 99")])

    def test_names_of_three_figures(self):
        desk = Desk()
        desk.say("by streets 1")
        for name in range(201):
            self.assertEqual(desk.say(f"put {name * name}"), str(name))
            if name >= 59:
                self.assertEqual(desk.say(f"take {name - 59}"), "59")
        self.answers(desk, [("two", "285 142 143"), ("near 200", "399 199"), ("take 200", "58")])
        self.answers(desk, [("near 199", "397 198")])
        self.refused(desk, "near 141", NoPlace)


class Forms(Case):
    def each_no_form(self, rows):
        """Each row has no form, neither ahead of the first by nor behind it, and then changes nothing."""
        fresh = Desk()
        desk = said(["by streets 2", "put 1,2 4,6 9,9"])
        before = all_told(desk)
        for row in rows:
            self.refused(fresh, row, NoForm)
            self.refused(desk, row, NoForm)
        self.assertEqual(all_told(desk), before)
        self.refused(fresh, "points", NoneYet)
        self.answers(desk, [("put 0,0", "3")])

    def test_no_such_word(self):
        self.each_no_form([
            "", "x", "puts", "pu", "point", "pointss", "twos", "tow", "nears", "pair", "part", "trees", "take2", "by2",
            "none", "bystreets 2", "0", "1,2", "say points", "names", "help", "bye streets 2", "far 0", "-", "putt 1,2",
            "put1,2", "take0", "parts5", "pairs5", "near0",
        ])

    def test_capital_letters(self):
        self.each_no_form([row.upper() for row in RIGHT] + [row.capitalize() for row in RIGHT] + [
            "by Streets 2", "by STREETS 2", "by squareS 2", "bY streets 2", "tWo", "treE",
        ])

    def test_blanks_ahead_behind_and_two_together(self):
        rows = [" ", "  "]
        for row in RIGHT:
            rows += [f" {row}", f"{row} ", f"  {row}", f"{row}  ", f" {row} "]
            if " " in row:
                rows += [row.replace(" ", "  "), row.replace(" ", "  ", 1), row.replace(" ", "   ")]
        rows += ["put 1,2  3,4", "put 1,2 3,4 ", "by streets  2", "by  streets 2", "put 1, 2", "put 1 ,2"]
        self.each_no_form(rows)

    def test_line_feeds(self):
        rows = ["\n", "\n\n"]
        for row in RIGHT:
            rows += [f"\n{row}", f"{row}\n", f"{row}\n\n", f"{row}\n{row}", f"{row} \n", row.replace(" ", "\n")]
        # Of one word, the last change changes nothing.
        self.each_no_form([row for row in rows if row not in RIGHT])

    def test_words_more_or_fewer(self):
        rows = ["by", "by streets", "by 2", "by squares", "by 2 streets", "by streets 2 2", "by streets 2 x",
                "by streets squares 2", "by streets squares", "put", "take", "near", "pairs", "parts"]
        rows += [f"{word} {more}" for word in BARE_ROWS for more in ("0", "1,2", "x", "points", "none", "0 0")]
        rows += [f"{word} {more}" for word in NAME_ROWS + BOUND_ROWS for more in ("0 0", "0 1", "0 x", "x 0", "0 1,2")]
        self.each_no_form(rows)

    def test_another_word_for_the_way(self):
        self.each_no_form([f"by {way} 2" for way in (
            "", "street", "square", "streetss", "sstreets", "Streets", "SQUARES", "streets,squares", "none", "0", "by",
            "W", "stree", "st", "tsreets", "streets\n", "\nsquares",
        )])

    def test_numbers_that_are_none(self):
        rows = [f"by streets {number}" for number in NO_FIGURES]
        rows += [f"{word} {number}" for word in NAME_ROWS + BOUND_ROWS for number in NO_FIGURES]
        self.each_no_form(rows)

    def test_too_many_figures(self):
        rows = []
        for figures in ("1000", "9999", "1111", "0001", "1" * 30):
            rows += [f"by streets {figures}", f"take {figures}", f"near {figures}"]
        for figures in ("1" + "0" * 30, "9" * 31, "1" * 40, "0" * 30 + "1", "0" * 31):
            rows += [f"pairs {figures}", f"parts {figures}"]
        self.each_no_form(rows)

    def test_one_to_three_figures_are_taken_for_names(self):
        desk = said(["by streets 1"])
        left = (0, 9, 10, 99, 100, 109)
        for ten in range(11):
            desk.say("put 1 2 3 4 5 6 7 8 9 10")
            for name in range(ten * 10, ten * 10 + 10):
                if name not in left:
                    desk.say(f"take {name}")
        self.answers(desk, [("near 0", "0 10"), ("near 9", "0 99"), ("near 10", "0 0"), ("near 99", "0 9")])
        self.answers(desk, [("near 100", "0 0"), ("near 109", "0 9")])
        self.answers(desk, [("take 100", "5"), ("take 10", "4"), ("take 0", "3")])
        for name in ("1", "11", "101", "110", "500", "999"):
            self.refused(desk, f"near {name}", NoPlace)
            self.refused(desk, f"take {name}", NoPlace)

    def test_one_to_thirty_figures_are_taken_for_bounds(self):
        desk = said(["by streets 1", "put 0 5 50"])
        for bound, pairs, parts in (("0", "none", "3"), ("4", "none", "3"), ("5", "0-1", "2"), ("45", "0-1 1-2", "1"),
                                    ("1000", "0-1 0-2 1-2", "1"), ("9" * 29, "0-1 0-2 1-2", "1"),
                                    ("1" + "0" * 29, "0-1 0-2 1-2", "1"), ("9" * 30, "0-1 0-2 1-2", "1")):
            self.answers(desk, [(f"pairs {bound}", pairs), (f"parts {bound}", parts)])


class Refusals(Case):
    def test_none_yet(self):
        desk = Desk()
        for row in RIGHT:
            if not row.startswith("by "):
                self.refused(desk, row, NoneYet)
        for row in ("take 999", "near 5", "put 1,2 3", "put 1,2,3,4", "pairs 0", "parts 0"):
            self.refused(desk, row, NoneYet)
        self.answers(desk, [("by streets 2", "by streets 2"), ("points", "none"), ("put 1,2", "0")])

    def test_no_form_goes_ahead_of_none_yet_and_of_the_rest(self):
        for desk in (Desk(), said(["by streets 2"])):
            for row in ("put 1,2,3,4 01", "put 1 1,2 x", "take 0999", "near 9999", "by street 0", "by streets 04",
                        "by streets 0 0", "put 1,2 3 ", "put 1,2,3,4,", "pairs -1", "parts -1", "take -1", "near -1"):
                self.refused(desk, row, NoForm)

    def test_a_refused_by_leaves_none_yet(self):
        desk = Desk()
        self.refused(desk, "by streets 4", NoPoints)
        self.refused(desk, "points", NoneYet)
        self.refused(desk, "by streets 0", NoPoints)
        self.refused(desk, "put 1", NoneYet)
        self.refused(desk, "by street 1", NoForm)
        self.refused(desk, "tree", NoneYet)

    def test_by_of_another_count_of_numbers(self):
        desk = said(["by streets 2", "put 1,2 4,6", "take 0", "put 9,9"])
        before = all_told(desk)
        for way in WAYS:
            for count in (0, 4, 5, 10, 22, 100, 999):
                self.refused(Desk(), f"by {way} {count}", NoPoints)
                self.refused(desk, f"by {way} {count}", NoPoints)
        self.assertEqual(all_told(desk), before)
        self.answers(desk, [("put 0,0", "3")])

    def test_names_that_are_not_there(self):
        for way in WAYS:
            desk = said([f"by {way} 1"])
            for name in (0, 1, 999):
                self.refused(desk, f"take {name}", NoPlace)
                self.refused(desk, f"near {name}", NoPlace)
            desk = said([f"by {way} 1", "put 1 2 3", "take 1"])
            before = all_told(desk)
            for name in (1, 3, 4, 10, 100, 999):
                self.refused(desk, f"take {name}", NoPlace)
                self.refused(desk, f"near {name}", NoPlace)
            self.assertEqual(all_told(desk), before)
            self.answers(desk, [("put 4", "3"), ("take 3", "2")])
            self.refused(desk, "take 3", NoPlace)

    def test_another_by_forgets_all(self):
        desk = said(["by streets 2", "put 1,2 4,6 9,9"])
        self.answers(desk, [("by squares 1", "by squares 1"), ("points", "none"), ("tree", "none"), ("parts 5", "0")])
        self.refused(desk, "near 0", NoPlace)
        self.refused(desk, "put 1,2", NoPoints)
        self.answers(desk, [("put 5 8", "0 1"), ("two", "9 0 1")])
        self.answers(desk, [("by squares 1", "by squares 1"), ("points", "none"), ("put 7", "0")])
        self.answers(desk, [("by streets 1", "by streets 1"), ("put 5 8", "0 1"), ("two", "3 0 1")])

    def test_what_is_refused_changes_nothing_wherever_it_is_said(self):
        rows = ["by squares 2", "put 1,2 4,6", "points", "put 9,9", "take 1", "two", "put 0,0 1,1", "pairs 50", "tree",
                "near 3", "parts 2", "take 0", "points", "by streets 1", "put 1 5", "two"]
        plain = Desk()
        disturbed = Desk()
        for row in rows:
            for wrong in ("", "put", "put 1,2,3,4", "put 1,2 1", "put 3 1,2", "take 77", "near 77", "by streets 0",
                          "by squares 9", "by x 1", "take 01", "tree ", "points\n", "put 1,2 none"):
                with self.assertRaises(NearError):
                    disturbed.say(wrong)
            with self.subTest(row=row):
                self.assertEqual(disturbed.say(row), plain.say(row))

    def test_asking_changes_nothing(self):
        desk = said(["by squares 2", "put 1,2 4,6 0,0", "take 1"])
        before = all_told(desk)
        self.assertEqual(all_told(desk), before)
        self.answers(desk, [("put 0,0", "3")])

    def test_two_desks_side_by_side(self):
        one, other = Desk(), Desk()
        self.answers(one, [("by streets 1", "by streets 1"), ("put 1 5", "0 1")])
        self.refused(other, "points", NoneYet)
        self.answers(other, [("by squares 2", "by squares 2"), ("points", "none"), ("put 0,0 3,4 9,9", "0 1 2")])
        self.answers(one, [("points", "1 5"), ("two", "4 0 1"), ("put 7", "2"), ("take 0", "2")])
        self.answers(other, [("points", "0,0 3,4 9,9"), ("two", "25 0 1"), ("put 1,1", "3")])
        self.answers(other, [("by squares 2", "by squares 2")])
        self.answers(one, [("points", "5 7"), ("put 8", "3")])


if __name__ == "__main__":
    unittest.main()
