"""Whether an edition is newer, and which of its members are new."""

import unittest

from growlists.editions import Edition
from growlists.errors import NotNewer
from growlists.newer import lost_name, new_members
from tests.samples import elder, newer


def old():
    return Edition([("m", ("z", "b"), 1), ("a", ("y",), 2)], {"t": ["a"], "s": [], "m": ["m"]})


class Newer(unittest.TestCase):
    def check(self, edition, *names):
        self.assertIsNone(lost_name(old(), edition))
        self.assertEqual(new_members(old(), edition), list(names))

    def test_itself(self):
        self.check(old())
        self.assertEqual(new_members(elder(), elder()), [])

    def test_other_order_numbers_and_sets(self):
        self.check(Edition([("a", ("y",), 1), ("m", ("z", "b"), 3)], {"s": ["a", "m"], "m": [], "t": []}))

    def test_names_may_lead_to_other_members(self):
        self.check(Edition([("m", ("y", "a"), 1), ("z", ("b",), 2)], {"m": [], "s": [], "t": []}))
        self.check(Edition([("one", ("a", "b", "m", "y", "z"), 1)], {"m": [], "s": [], "t": []}))

    def test_new_members_in_the_order_of_the_newer_edition(self):
        edition = Edition([("x", (), 9), ("a", ("y",), 2), ("c", ("d",), 5), ("m", ("z", "b"), 1), ("n", (), 7)],
                          {"t": ["a", "x"], "s": ["n"], "m": []})
        self.check(edition, "x", "c", "n")

    def test_a_member_with_one_known_alias_is_not_new(self):
        edition = Edition([("a", ("y",), 2), ("p", ("q", "z"), 5), ("o", ("m", "b"), 1), ("k", ("j",), 7)],
                          {"t": [], "s": [], "m": []})
        self.check(edition, "k")

    def test_names_of_sets_are_no_names_of_members(self):
        rows = [("m", ("z", "b"), 1), ("a", ("y",), 2), ("t", (), 3), ("s", (), 4)]
        self.check(Edition(rows, {"t": [], "s": [], "m": []}), "t", "s")

    def test_more_sets(self):
        rows = [("low", (), 1), ("mid", (), 2), ("normal", (), 3), ("high", (), 4)]
        self.assertIsNone(lost_name(elder(), Edition(rows, {"busy": [], "idle": []})))

    def test_arguments_by_name(self):
        self.assertEqual(lost_name(newer=elder(), elder=newer()), "top")
        self.assertEqual(new_members(newer=newer(), elder=elder()), ["top"])

    def test_lists_are_new(self):
        one, other = elder(), newer()
        new_members(one, other).clear()
        self.assertEqual(new_members(one, other), ["top"])


class Lost(unittest.TestCase):
    def check(self, edition, name, one=None):
        one = old() if one is None else one
        self.assertEqual(lost_name(one, edition), name)
        with self.assertRaises(NotNewer) as caught:
            new_members(one, edition)
        self.assertEqual(caught.exception.name, name)

    def test_names_go_in_the_order_of_the_elder(self):
        self.check(Edition([("x", (), 1)]), "m")
        self.check(Edition([("m", ("b", "z"), 1)]), "a")

    def test_aliases_go_behind_their_name_ascending(self):
        self.check(Edition([("m", (), 1)]), "b")
        self.check(Edition([("m", ("b",), 1)]), "z")
        self.check(Edition([("m", ("b", "z", "y"), 1)]), "a")
        self.check(Edition([("m", ("b", "z", "a"), 1)]), "y")

    def test_aliases_go_before_the_names_of_later_members(self):
        self.check(Edition([("m", ("b",), 1), ("y", (), 2)]), "z")

    def test_sets_go_last_ascending(self):
        rows = [("m", ("z", "b"), 1), ("a", ("y",), 2)]
        self.check(Edition(rows), "m")
        self.check(Edition(rows, {"m": []}), "s")
        self.check(Edition(rows, {"m": [], "s": []}), "t")
        self.check(Edition(rows, {"t": [], "s": [], "u": []}), "m")

    def test_members_go_before_sets(self):
        self.check(Edition([("a", ("m", "y", "z"), 1)]), "b")

    def test_a_name_of_a_set_is_no_name_of_a_member(self):
        self.check(Edition([("low", (), 1), ("mid", (), 2)], {"busy": [], "high": [], "normal": []}), "normal", elder())

    def test_a_name_of_a_member_is_no_name_of_a_set(self):
        rows = [("low", ("busy",), 1), ("mid", ("normal",), 5), ("high", (), 9)]
        self.check(Edition(rows, {"idle": []}), "busy", elder())

    def test_the_newer_way_round(self):
        self.check(elder(), "top", newer())
