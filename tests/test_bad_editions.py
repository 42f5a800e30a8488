"""Editions that are not in order: which error is raised, with which value."""

import unittest

from growlists.editions import Edition
from growlists.errors import BadMember, BadMembers, BadSet, BadSets
from tests.samples import elder_rows, other_values, twice_over
from tests.test_editions import many_rows

BAD_NAMES = [
    "", "longnamed", "Low", "lOw", "lo w", " low", "low ", "low\n", "lo-w", "low2", "2", "_", "~", 0, 1, True, False,
    None, (), ("low",), [], ["low"], {}, {"low": 1}, "z{", "`a",
]


class Wrong(unittest.TestCase):
    def check(self, error, attribute, value, *arguments):
        with self.assertRaises(error) as caught:
            Edition(*arguments)
        self.assertIs(type(caught.exception), error)
        self.assertTrue(getattr(caught.exception, attribute) is value)


class Members(Wrong):
    def test_no_list_or_tuple(self):
        for value in [elder_rows, "low", {"low": ("low", (), 1)}, {0: 1}, range(2), *other_values()]:
            if not isinstance(value, (list, tuple)):
                with self.subTest():
                    self.check(BadMembers, "value", value, value)

    def test_no_entries_and_too_many(self):
        for value in ([], (), many_rows(17), tuple(many_rows(17)), [None] * 17, [None] * 100):
            with self.subTest():
                self.check(BadMembers, "value", value, value)


class OneMember(Wrong):
    def check_entry(self, entry):
        with self.subTest():
            self.check(BadMember, "position", 0, [entry])
            self.check(BadMember, "position", 0, (entry,))
            self.check(BadMember, "position", 1, [("first", (), 77), entry])
            self.check(BadMember, "position", 2, [("first", (), 77), ("second", (), 78), entry, entry, None])

    def test_no_tuple_of_three(self):
        for entry in ["low", "lox", ("low", ()), ("low", (), 1, 2), ("low",), ("low", 1), ["low", (), 1],
                      {"low": 1, 2: 3, 4: 5}, *other_values()]:
            self.check_entry(entry)

    def test_no_name(self):
        for name in BAD_NAMES:
            self.check_entry((name, (), 1))
        for value in other_values():
            self.check_entry((value, (), 1))

    def test_no_tuple_of_aliases(self):
        for aliases in ([], ["a"], {}, {"a": 1}, "", "a", "abc", None, 0, True):
            self.check_entry(("low", aliases, 1))
        for value in other_values():
            if not isinstance(value, tuple) or value not in ((), ("low",)):
                self.check_entry(("low", value, 1))

    def test_no_alias(self):
        for name in BAD_NAMES:
            self.check_entry(("low", (name,), 1))
            self.check_entry(("low", ("a", name), 1))
            self.check_entry(("low", (name, "a"), 1))

    def test_no_number(self):
        for number in (True, False, None, "", "1", "a", (), (1,), [], [1], {}, 10 ** 9 + 1, -10 ** 9 - 1, 10 ** 59):
            self.check_entry(("low", (), number))

    def test_own_things_twice(self):
        self.check_entry(("low", ("low",), 1))
        self.check_entry(("low", ("a", "low"), 1))
        self.check_entry(("low", ("a", "a"), 1))
        self.check_entry(("low", ("a", "b", "a"), 1))

    def test_things_of_an_entry_before(self):
        one = ("a", ("b", "c"), 1)
        for entry in (("a", (), 2), ("b", (), 2), ("c", (), 2), ("d", ("a",), 2), ("d", ("c",), 2),
                      ("d", ("e", "b"), 2), ("d", ("e", "f"), 1), one):
            with self.subTest(entry):
                self.check(BadMember, "position", 1, [one, entry])
                self.check(BadMember, "position", 2, [one, ("between", (), 5), entry])
                self.check(BadMember, "position", 2, [("between", (), 5), one, entry])

    def test_the_first_wrong_one_is_named(self):
        self.check(BadMember, "position", 1, [("a", (), 1), ("a", (), 2), None])
        self.check(BadMember, "position", 1, [("a", (), 1), None, ("a", (), 2)])
        self.check(BadMember, "position", 15, many_rows(15) + [("ma", (), 99)])
        self.check(BadMember, "position", 0, [None] * 16)


class Sets(Wrong):
    def test_no_dict(self):
        for value in [[], (), ["busy"], "busy", 0, False, True, [("busy", ["low"])], *other_values()]:
            if value is not None and not isinstance(value, dict):
                with self.subTest():
                    self.check(BadSets, "value", value, elder_rows(), value)

    def test_too_many(self):
        for value in ({"a": [], "b": [], "c": [], "d": []}, {1: 1, 2: 2, 3: 3, 4: 4}):
            self.check(BadSets, "value", value, elder_rows(), value)


class OneSet(Wrong):
    def test_no_name(self):
        for key in BAD_NAMES:
            if not isinstance(key, (list, dict)):
                with self.subTest(key):
                    self.check(BadSet, "value", key, elder_rows(), {key: ["low"]})
                    self.check(BadSet, "value", key, elder_rows(), {"good": [], key: []})
        deep = (1, (2, ("a", None)))
        self.check(BadSet, "value", deep, elder_rows(), {deep: []})

    def test_no_list_or_tuple(self):
        for value in [None, "low", "", {}, {"low": 1}, 0, True, *other_values()]:
            if not isinstance(value, (list, tuple)):
                with self.subTest():
                    self.check(BadSet, "value", "busy", elder_rows(), {"busy": value})

    def test_no_names_of_members(self):
        for value in ["normal", "busy", "top", "lo", "lowmid", *other_values()]:
            with self.subTest():
                self.check(BadSet, "value", "busy", elder_rows(), {"busy": [value]})
                self.check(BadSet, "value", "busy", elder_rows(), {"busy": ("low", value)})
                self.check(BadSet, "value", "busy", elder_rows(), {"busy": [value, "low"]})

    def test_a_member_twice(self):
        self.check(BadSet, "value", "busy", elder_rows(), {"busy": ["low", "low"]})
        self.check(BadSet, "value", "busy", elder_rows(), {"busy": ("low", "mid", "low")})

    def test_the_first_wrong_key_is_named(self):
        self.check(BadSet, "value", "z", elder_rows(), {"good": [], "z": None, "a": None})
        self.check(BadSet, "value", "z", elder_rows(), {"z": ["top"], 1: []})
        self.check(BadSet, "value", 1, elder_rows(), {1: [], "z": ["top"]})
        self.check(BadSet, "value", "last", elder_rows(), {"one": [], "two": ["low"], "last": ["top"]})


class Sequence(Wrong):
    def test_members_before_one_member(self):
        rows = many_rows(16) + [None]
        self.check(BadMembers, "value", rows, rows)

    def test_members_before_sets(self):
        self.check(BadMembers, "value", None, None, 5)
        self.check(BadMembers, "value", None, None, {1: 2})

    def test_one_member_before_sets(self):
        self.check(BadMember, "position", 1, [("a", (), 1), None], 5)
        self.check(BadMember, "position", 1, [("a", (), 1), ("a", (), 2)], {"s": 1, "t": 2, "u": 3, "v": 4})

    def test_one_member_before_one_set(self):
        self.check(BadMember, "position", 0, [("a", ("a",), 1)], {"s": ["b"]})

    def test_sets_before_one_set(self):
        sets = {1: None, "b": 2, "c": 3, "d": 4}
        self.check(BadSets, "value", sets, elder_rows(), sets)

    def test_arguments_of_errors_are_not_changed(self):
        rows, sets = [("a", ("c", "b"), 1), None], {"s": ["a"], "t": 5}
        self.check(BadMember, "position", 1, rows, sets)
        self.assertEqual(rows, [("a", ("c", "b"), 1), None])
        self.check(BadSet, "value", "t", rows[:1], sets)
        self.assertEqual(sets, {"s": ["a"], "t": 5})

    def test_values_that_are_endless_when_walked(self):
        endless = twice_over(())
        self.check(BadMember, "position", 0, [endless])
        self.check(BadSets, "value", endless, elder_rows(), endless)
        self.check(BadSet, "value", "busy", elder_rows(), {"busy": endless})
