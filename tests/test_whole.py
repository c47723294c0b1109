"""What holds of everything: nothing is changed or kept, and each kind is the one that is told."""

import copy
import importlib
import inspect
import unittest

from cases import ASKED, ASKED_WRONGLY, NOT_POINTS, WAYS, spread
from closepoints.errors import NearError

TELL_LISTS = ("all_pairs", "nearest_all", "mutual", "near_pairs", "near_counts", "most_apart")
TELL_LISTS += ("near_between", "parts_within", "least_tree")
TELL_NUMBERS = ("how_far", "how_many_near", "bound_for_all", "bound_for_parts")
TELL_NUMBERS_OR_NONE = ("greatest_bound",)
TELL_TUPLES = ("nearest_two", "nearest_of", "nearest_to", "so_manieth_pair", "two_between", "far_list")
TELL_TUPLES += ("farthest_two", "farthest_of", "middle", "sums_place", "most_near")
# Each module's names with their arguments in their places, as the document's interface tells them.
INTERFACE = (
    ("points", "how_far points way one other", "all_pairs points way"),
    ("nearest", "nearest_two points way", "nearest_of points way place", "nearest_all points way", "mutual points way",
     "nearest_to points way point"),
    ("near", "near_pairs points way bound", "how_many_near points way bound", "so_manieth_pair points way number",
     "near_counts points way bound", "most_apart points way bound"),
    ("cells", "cell_of point side", "cells_show points way bound paper", "cells_paper points way bound",
     "greatest_bound points way"),
    ("between", "two_between points others way", "near_between points others way bound", "far_list points others way"),
    ("parts", "parts_within points way bound", "least_tree points way", "bound_for_all points way",
     "bound_for_parts points way many"),
    ("kept", "Kept way count", "Kept.put self point", "Kept.take self name", "Kept.names self", "Kept.point self name",
     "Kept.two self", "Kept.nearest self name", "Kept.near self bound"),
    ("texts", "points_text points", "read_points text"),
    ("desk", "Desk", "Desk.say self row"),
    ("far", "farthest_two points way", "farthest_of points way place", "middle points way", "sums_place points way",
     "most_near points way bound"),
    ("turned", "moved points by", "mirrored points number", "exchanged points one other", "times points many",
     "moved_by points others"),
)

LISTS_OF_LISTS = ("parts_within",)
LISTS_OF_NUMBERS = ("near_counts", "most_apart")


def kinds_are_right(told):
    """Tuples of whole numbers alone: no truth among them, and nothing within them that could be changed."""
    return type(told) is tuple and all(type(number) is int for number in told)


class NothingIsChangedOrKept(unittest.TestCase):
    def test_what_is_handed_in_stays_as_it_was(self):
        for name, ask in ASKED:
            for way in WAYS:
                points = spread(14, 3, 4, 6)
                before = copy.deepcopy(points)
                ask(points, way)
                with self.subTest(name=name, way=way):
                    self.assertEqual(points, before)

    def test_what_is_refused_stays_as_it_was(self):
        for name, ask in ASKED + ASKED_WRONGLY:
            for points in NOT_POINTS + (spread(15, 2, 4, 6),):
                before = copy.deepcopy(points)
                try:
                    ask(points, "streets")
                except NearError:
                    pass
                with self.subTest(name=name, points=before):
                    self.assertEqual(points, before)

    def test_a_refusal_changes_nothing_of_what_is_told_later(self):
        points = spread(14, 2, 4, 6)
        for name, ask in ASKED:
            before = copy.deepcopy(ask(points, "squares"))
            for wrong_name, ask_wrongly in ASKED_WRONGLY:
                with self.assertRaises(NearError):
                    ask_wrongly(points, "squares")
            with self.subTest(name=name):
                self.assertEqual(ask(points, "squares"), before)

    def test_a_list_that_was_told_is_the_askers_own(self):
        for name, ask in ASKED:
            if name in TELL_LISTS:
                for way in WAYS:
                    for points in ([], [(3, 3), (4, 5)], spread(14, 2, 4, 6)):
                        told = ask(points, way)
                        kept = copy.deepcopy(told)
                        if name in LISTS_OF_LISTS and told:
                            told[0].append("more")
                        told.append("more")
                        told.reverse()
                        with self.subTest(name=name, way=way, points=points):
                            self.assertEqual(ask(points, way), kept)

    def test_a_list_that_was_told_stays_when_the_points_are_changed(self):
        for name, ask in ASKED:
            for way in WAYS:
                points = spread(13, 2, 4, 6)
                told = ask(points, way)
                kept = copy.deepcopy(told)
                points[0] = (99, 99)
                points.append((7, 7))
                ask(points, way)
                with self.subTest(name=name, way=way):
                    self.assertEqual(told, kept)

    def test_points_that_were_changed_are_asked_anew(self):
        for name, ask in ASKED:
            for way in WAYS:
                points = [(0, 1), (2, 1), (40, 40)]
                before = ask(points, way)
                points[0] = (50, 50)
                points[1] = (90, 90)
                points[2] = (51, 50)
                points.append((51, 51))
                after = ask(points, way)
                with self.subTest(name=name, way=way):
                    self.assertNotEqual(after, before)
                    self.assertEqual(after, ask([(50, 50), (90, 90), (51, 50), (51, 51)], way))


class Kinds(unittest.TestCase):
    def test_lists(self):
        for name, ask in ASKED:
            if name in TELL_LISTS:
                for way in WAYS:
                    for points in ([], [(1,)], [(1,), (1,)], spread(14, 3, 2, 6)):
                        with self.subTest(name=name, way=way, points=points):
                            self.assertIs(type(ask(points, way)), list)

    def test_what_lies_in_the_lists(self):
        points = spread(14, 2, 2, 6)
        for name, ask in ASKED:
            if name in TELL_LISTS:
                for way in WAYS:
                    with self.subTest(name=name, way=way):
                        told = ask(points, way)
                        self.assertTrue(told)
                        if name in LISTS_OF_NUMBERS:
                            self.assertTrue(all(type(number) is int for number in told))
                        elif name in LISTS_OF_LISTS:
                            self.assertTrue(all(type(one) is list for one in told))
                            self.assertTrue(all(kinds_are_right(tuple(one)) for one in told))
                        else:
                            self.assertTrue(all(kinds_are_right(one) for one in told))

    def test_numbers_and_tuples(self):
        for name, ask in ASKED:
            for way in WAYS:
                for points in ([(1,), (1,)], [(1,), (9,)], spread(14, 3, 2, 6)):
                    with self.subTest(name=name, way=way, points=points):
                        if name in TELL_NUMBERS:
                            self.assertIs(type(ask(points, way)), int)
                        if name in TELL_NUMBERS_OR_NONE:
                            self.assertIn(type(ask(points, way)), (int, type(None)))
                        if name in TELL_TUPLES:
                            self.assertTrue(kinds_are_right(ask(points, way)))

    def test_every_function_is_among_these(self):
        named = sorted(TELL_LISTS + TELL_NUMBERS + TELL_NUMBERS_OR_NONE + TELL_TUPLES)
        self.assertEqual(named, sorted(name for name, ask in ASKED))


class Interface(unittest.TestCase):
    def test_names_and_arguments_are_there_as_they_stand(self):
        for module, *rows in INTERFACE:
            for row in rows:
                name, *arguments = row.split(" ")
                with self.subTest(module=module, name=name):
                    found = importlib.import_module("closepoints." + module)
                    for part in name.split("."):
                        found = getattr(found, part)
                    self.assertEqual(list(inspect.signature(found).parameters), arguments)


if __name__ == "__main__":
    unittest.main()
