"""A desk that is told rows about kept points and answers each by a text."""

from closepoints.checks import SQUARES, STREETS, need_as_many_numbers
from closepoints.errors import NoForm, NoneYet
from closepoints.kept import Kept
from closepoints.parts import bound_for_all, parts_within
from closepoints.texts import NOTHING, is_figures, is_point, point_from, points_text

MOST_PUT = 10
FIGURES_OF_NAMES = 3
FIGURES_OF_BOUNDS = 30


def is_one_number(words, most):
    return len(words) == 1 and is_figures(words[0], most)


def row_has_form(first, rest):
    if first == "by":
        return len(rest) == 2 and rest[0] in (STREETS, SQUARES) and is_figures(rest[1], FIGURES_OF_NAMES)
    if first == "put":
        return 1 <= len(rest) <= MOST_PUT and all([is_point(word) for word in rest])
    if first in ("take", "near"):
        return is_one_number(rest, FIGURES_OF_NAMES)
    if first in ("pairs", "parts"):
        return is_one_number(rest, FIGURES_OF_BOUNDS)
    return first in ("points", "two", "tree") and not rest


def words_text(told):
    # None, and a list without anything in it, have nothing to tell.
    if not told:
        return NOTHING
    return " ".join([str(one) for one in told])


class Desk:
    def __init__(self):
        self.kept = None

    def say(self, row):
        words = row.split(" ")
        first = words[0]
        rest = words[1:]
        if not row_has_form(first, rest):
            raise NoForm("there is no row of this form")
        if first == "by":
            return self.begin(rest[0], int(rest[1]))
        if self.kept is None:
            raise NoneYet("no row by was said yet")
        if first == "put":
            return self.put_all([point_from(word) for word in rest])
        if rest:
            return self.answer_of(first, int(rest[0]))
        return self.answer(first)

    def begin(self, way, count):
        self.kept = Kept(way, count)
        return f"by {way} {count}"

    def put_all(self, points):
        # All are looked at before the first is put, for a wrong one leaves none of them put.
        for point in points:
            need_as_many_numbers(point, self.kept.count)
        return words_text([self.kept.put(point) for point in points])

    def answer_of(self, first, number):
        if first == "take":
            self.kept.take(number)
            return str(len(self.kept.names()))
        if first == "near":
            return words_text(self.kept.nearest(number))
        if first == "pairs":
            return words_text([f"{one}-{other}" for one, other in self.kept.near(number)])
        return str(len(parts_within(self.kept.plain_points(), self.kept.way, number)))

    def answer(self, first):
        if first == "two":
            return words_text(self.kept.two())
        points = self.kept.plain_points()
        if first == "points":
            return points_text(points)
        bound = bound_for_all(points, self.kept.way)
        return NOTHING if bound is None else str(bound)
