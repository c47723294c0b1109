import copy
import unittest

from cases import GREAT, NOT_POINTS, spread, strewn
from closepoints.errors import NearError, NoPoints, NoText
from closepoints.texts import points_text, read_points

# Points with the one text that they are written by.
WRITTEN = (
    ([], "none"),
    ([(0,)], "0"),
    ([(7,)], "7"),
    ([(-7,)], "-7"),
    ([(10,)], "10"),
    ([(0, 0)], "0,0"),
    ([(0, 1), (-3, 4)], "0,1 -3,4"),
    ([(1, 2, 3)], "1,2,3"),
    ([(-1, -20, -300)], "-1,-20,-300"),
    ([(5,), (0,), (-5,), (5,)], "5 0 -5 5"),
    ([(1, 2, 3), (-4, 0, 6), (7, 8, -9)], "1,2,3 -4,0,6 7,8,-9"),
    ([(999999999999999,), (-999999999999999,)], "999999999999999 -999999999999999"),
    ([(100000000000000, -100000000000000)], "100000000000000,-100000000000000"),
)

# Each is no number, alone, and so none in the place of a number.
NO_NUMBERS = (
    "00", "01", "-0", "-00", "-01", "000", "007", "-", "--", "--1", "-1-", "1-", "1-2", "+", "+1", "+0", "-+1", "+-1",
    "a", "x1", "1x", "1a2", "0x1", "1e3", "1_0", "1.0", "1.", ".5", "1/2", "O", "l", "*", "#", "~", "(1)", "[1]",
    "\"1\"", "'1'", "1:2", "1;2", "1000000000000000", "-1000000000000000", "1" * 16, "-" + "9" * 16, "1" * 30,
    "0000000000000001", "-0000000000000001", "None", "NONE", "none", "nonee", "none0", "0none", "True", "!", "$", "&",
)


class Writing(unittest.TestCase):
    def test_to_the_sign(self):
        for points, text in WRITTEN:
            with self.subTest(text=text):
                told = points_text(points)
                self.assertEqual(told, text)
                self.assertIs(type(told), str)

    def test_many_points(self):
        points = spread(150, 3, GREAT, 4)
        parts = points_text(points).split(" ")
        self.assertEqual(len(parts), 150)
        self.assertEqual([[int(number) for number in part.split(",")] for part in parts],
                         [list(point) for point in points])

    def test_what_are_no_points_is_refused(self):
        for points in NOT_POINTS:
            before = copy.deepcopy(points)
            with self.subTest(points=points):
                with self.assertRaises(NoPoints):
                    points_text(points)
                self.assertEqual(points, before)

    def test_a_late_wrong_point_among_many_is_refused(self):
        for wrong in ((), (1,), (1, 2, 3), (1, 2, 3, 4)):
            with self.assertRaises(NoPoints):
                points_text(spread(149, 2, 50, 3) + [wrong])

    def test_what_is_handed_in_stays_as_it_was(self):
        for points, text in WRITTEN:
            before = copy.deepcopy(points)
            points_text(points)
            self.assertEqual(points, before)


class Reading(unittest.TestCase):
    def test_to_the_point(self):
        for points, text in WRITTEN:
            with self.subTest(text=text):
                self.assertEqual(read_points(text), points)

    def test_what_was_written_is_read_back(self):
        for points in strewn() + [spread(150, 3, GREAT, 4), spread(150, 1, 2, 4)]:
            with self.subTest(points=points):
                text = points_text(points)
                self.assertEqual(read_points(text), points)
                self.assertEqual(points_text(read_points(text)), text)

    def test_kinds(self):
        for points, text in WRITTEN:
            told = read_points(text)
            self.assertIs(type(told), list)
            self.assertTrue(all(type(point) is tuple for point in told))
            self.assertTrue(all(type(number) is int for point in told for number in point))

    def test_the_list_is_the_askers_own(self):
        for points, text in WRITTEN:
            told = read_points(text)
            told.append((99,))
            told.reverse()
            self.assertEqual(read_points(text), points)


class NoTexts(unittest.TestCase):
    def refused(self, text):
        with self.subTest(text=text):
            with self.assertRaises(NoText):
                read_points(text)

    def test_the_empty_text(self):
        self.refused("")

    def test_blanks_and_line_feeds(self):
        for text in (
            " ", "  ", " 1", "1 ", "1  2", " 1 2", "1 2 ", "1   2", " 1,2 3,4", "1,2 3,4 ", "1,2  3,4", "1, 2", "1 ,2",
            "1 , 2", "- 1", "\n", "1\n", "\n1", "1\n2", "1,2\n3,4", "1,\n2", "1,2 3,4\n", "\n1,2 3,4", "1 \n2", "-\n1",
            " none", "none ", "none\n", "\nnone", "no ne",
        ):
            self.refused(text)

    def test_commas(self):
        for text in (
            ",", ",,", ",1", "1,", "1,,2", ",1,2", "1,2,", ",1 2", "1, 2", "1,2 ,3", "1,2 3,", "1,2 3,,4", "1,2 ,",
            "1,2,,3", "-,1", "1,-",
        ):
            self.refused(text)

    def test_what_is_no_number(self):
        for number in NO_NUMBERS:
            if number != "none":
                self.refused(number)
            for text in (f"{number},1", f"1,{number}", f"1,{number},2", f"{number} 1", f"1 {number}", f"1 {number} 2",
                         f"1,2 3,{number}", f"{number},2 3,4"):
                self.refused(text)

    def test_none_beside_a_point_or_otherwise_written(self):
        for text in ("none none", "none 1", "1 none", "1,2 none", "none 1,2", "none,none", "none,1", "1,none", "None",
                     "NONE", "nonE", "non", "one", "-none", "nonenone"):
            self.refused(text)

    def test_fifteen_figures_are_taken_and_sixteen_refused(self):
        for sign in ("", "-"):
            for figure in ("1", "5", "9"):
                self.assertEqual(read_points(sign + figure * 15), [(int(sign + figure * 15),)])
                self.refused(sign + figure * 16)
                self.refused(f"1,{sign}{figure * 16}")

    def test_other_signs_for_figures_are_none(self):
        for text in ("\u0661", "\u00b2", "1\u0662", "\uff11", "-\u0663"):
            self.refused(text)


class NotAllAsMany(unittest.TestCase):
    def test_the_form_is_there_but_they_are_no_points(self):
        for text in ("1 1,2", "1,2 3", "1,2 3,4 5", "1,2 3,4,5", "1,2,3 4,5", "1 2 3,4", "1,2,3,4", "1,2,3,4 5,6,7,8",
                     "1,2,3,4,5,6,7", "1,2 3,4,5,6", "1,2,3,4 1", "0,0,0,0", "-1,-2,-3,-4"):
            with self.subTest(text=text):
                with self.assertRaises(NoPoints):
                    read_points(text)

    def test_a_late_one_among_many(self):
        text = points_text(spread(149, 2, 50, 3))
        for wrong in ("1", "1,2,3", "1,2,3,4"):
            with self.assertRaises(NoPoints):
                read_points(f"{text} {wrong}")
            with self.assertRaises(NoPoints):
                read_points(f"{wrong} {text}")

    def test_no_text_goes_ahead(self):
        for text in ("1 1,2 01", "1 1,2 ", " 1 1,2", "1 1,2  3", "1,2,3,4,", "1,2,3,4 -0", "1,2,3,4 x", "x 1,2,3,4",
                     "1,2 3 none", "none 1,2,3,4", "1,2,3,1000000000000000", "1 1,2\n", "1,2 3 +4", "1 2,3 4,,5",
                     "1,2,3,4,05"):
            with self.subTest(text=text):
                with self.assertRaises(NoText):
                    read_points(text)

    def test_a_refusal_changes_nothing_of_what_is_told_later(self):
        for wrong in ("", "1 1,2", "01", "1,2,3,4"):
            with self.assertRaises(NearError):
                read_points(wrong)
            self.assertEqual(read_points("0,1 -3,4"), [(0, 1), (-3, 4)])


if __name__ == "__main__":
    unittest.main()
