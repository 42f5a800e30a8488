"""Editions that are in order: what they have and tell."""

import unittest

from growlists.editions import Edition, Group, Member
from growlists.errors import NoMember, NoSet
from tests.samples import elder, elder_rows, other_values


def many_rows(many):
    return [(f"m{chr(ord('a') + k)}", (), k) for k in range(many)]


class Good(unittest.TestCase):
    def test_one_and_sixteen_members(self):
        self.assertEqual(Edition([("a", (), 0)]).names, ["a"])
        self.assertEqual(len(Edition(many_rows(16))), 16)

    def test_lists_and_tuples(self):
        self.assertEqual(Edition(tuple(elder_rows())).names, ["low", "mid", "high"])
        edition = Edition(elder_rows(), {"busy": ("high", "mid")})
        self.assertEqual(edition.group("busy").names, ["mid", "high"])

    def test_shortest_and_longest_names(self):
        edition = Edition([("a", ("abcdefgh",), 0), ("zyxwvuts", ("z",), 1)], {"s": [], "setnames": ["a"]})
        self.assertEqual(edition.names, ["a", "zyxwvuts"])
        self.assertEqual(edition["abcdefgh"].name, "a")
        self.assertEqual(edition.sets, ["s", "setnames"])

    def test_farthest_numbers(self):
        edition = Edition([("a", (), 10 ** 9), ("b", (), -10 ** 9), ("c", (), 0)])
        self.assertEqual([edition[name].number for name in "abc"], [10 ** 9, -10 ** 9, 0])

    def test_many_aliases(self):
        edition = Edition([("a", ("y", "x", "z", "w"), 1)])
        self.assertEqual(edition["a"].aliases, ("w", "x", "y", "z"))

    def test_sets_may_be_empty_and_missing(self):
        self.assertEqual(Edition(elder_rows()).sets, [])
        self.assertEqual(Edition(elder_rows(), None).sets, [])
        self.assertEqual(Edition(elder_rows(), {}).sets, [])
        self.assertEqual(Edition(elder_rows(), {"none": []}).group("none").names, [])
        self.assertEqual(Edition(elder_rows(), {"none": ()}).group("none").names, [])

    def test_three_sets_ascending(self):
        edition = Edition(elder_rows(), {"z": [], "a": ["low"], "m": ["low", "mid", "high"]})
        self.assertEqual(edition.sets, ["a", "m", "z"])
        self.assertEqual(edition.group("m").names, ["low", "mid", "high"])

    def test_names_of_sets_may_be_names_of_members(self):
        edition = Edition(elder_rows(), {"low": ["high"], "normal": ["low"]})
        self.assertEqual(edition.group("low").names, ["high"])
        self.assertEqual(edition.group("normal").names, ["low"])

    def test_arguments_by_name(self):
        edition = Edition(sets={"busy": ["high", "mid"]}, members=elder_rows())
        self.assertEqual(edition, elder())
        self.assertEqual(edition.numbered(number=5).name, "mid")
        self.assertEqual(edition.group(name="busy").names, ["mid", "high"])


class Asked(unittest.TestCase):
    def test_names_in_their_order(self):
        self.assertEqual(elder().names, ["low", "mid", "high"])
        self.assertEqual(Edition([("z", (), 9), ("a", (), 3)]).names, ["z", "a"])

    def test_len(self):
        self.assertEqual(len(elder()), 3)

    def test_in(self):
        edition = elder()
        self.assertTrue(all([word in edition for word in ("low", "mid", "high", "normal")]))
        self.assertIs("normal" in edition, True)
        for value in ["busy", "lo", "top", *other_values()]:
            with self.subTest():
                self.assertIs(value in edition, False)

    def test_item(self):
        edition = elder()
        told = [edition[word].name for word in ("low", "mid", "normal", "high")]
        self.assertEqual(told, ["low", "mid", "mid", "high"])
        self.assertIsInstance(edition["low"], Member)

    def test_item_of_any_other_value(self):
        edition = elder()
        for value in ["busy", "lo", "top", *other_values()]:
            with self.subTest(), self.assertRaises(NoMember) as caught:
                edition[value]
            self.assertTrue(caught.exception.value is value)

    def test_numbered(self):
        edition = Edition([("a", (), 7), ("b", (), -2), ("c", (), 0)])
        self.assertEqual([edition.numbered(number).name for number in (7, -2, 0)], ["a", "b", "c"])
        self.assertIsInstance(edition.numbered(7), Member)

    def test_numbered_of_any_other_value(self):
        edition = Edition([("low", (), 2), ("mid", (), 3)])
        for value in [4, 10 ** 10, *other_values()]:
            with self.subTest(), self.assertRaises(NoMember) as caught:
                edition.numbered(value)
            self.assertTrue(caught.exception.value is value)

    def test_bools_are_no_numbers(self):
        edition = Edition([("low", (), 1), ("mid", (), 0)])
        for value in (True, False):
            with self.assertRaises(NoMember) as caught:
                edition.numbered(value)
            self.assertTrue(caught.exception.value is value)

    def test_group(self):
        self.assertEqual(elder().group("busy").names, ["mid", "high"])
        self.assertIsInstance(elder().group("busy"), Group)

    def test_group_of_any_other_value(self):
        edition = elder()
        for value in ["low", "normal", "bus", *other_values()]:
            with self.subTest(), self.assertRaises(NoSet) as caught:
                edition.group(value)
            self.assertTrue(caught.exception.value is value)

    def test_everything(self):
        self.assertEqual(elder().everything().names, ["low", "mid", "high"])
        self.assertIsInstance(elder().everything(), Group)

    def test_an_edition_is_not_a_list(self):
        self.assertRaises(TypeError, list, elder())


class Copies(unittest.TestCase):
    def test_changed_arguments_change_nothing(self):
        rows, busy = elder_rows(), ["mid", "high"]
        sets = {"busy": busy}
        edition = Edition(rows, sets)
        rows.append(("top", (), 12))
        rows[0] = ("base", (), 0)
        busy.append("low")
        sets["idle"] = ["low"]
        self.assertEqual(edition, elder())
        self.assertEqual(edition.names, ["low", "mid", "high"])
        self.assertEqual(edition.sets, ["busy"])
        self.assertEqual(edition.group("busy").names, ["mid", "high"])
        del sets["busy"]
        rows.clear()
        self.assertEqual(edition, elder())

    def test_arguments_are_not_changed(self):
        rows = [("b", ("z", "y"), 2), ("a", (), 1)]
        sets = {"t": ["a", "b"], "s": []}
        Edition(rows, sets)
        self.assertEqual(rows, [("b", ("z", "y"), 2), ("a", (), 1)])
        self.assertEqual(list(sets.items()), [("t", ["a", "b"]), ("s", [])])

    def test_lists_are_new(self):
        edition = elder()
        for take in (lambda: edition.names, lambda: edition.sets, lambda: edition.everything().names,
                     lambda: edition.group("busy").names):
            first = take()
            first.reverse()
            first.append("other")
            self.assertNotEqual(first, take())
        group = edition.group("busy")
        group.names.clear()
        self.assertEqual(group.names, ["mid", "high"])
        self.assertEqual(edition, elder())


class Same(unittest.TestCase):
    def test_equal(self):
        self.assertTrue(elder() == elder())
        self.assertFalse(elder() != elder())

    def test_aliases_and_sets_in_whatever_sequence(self):
        one = Edition([("a", ("x", "y"), 1), ("b", (), 2)], {"s": ["a", "b"], "t": []})
        other = Edition((("a", ("y", "x"), 1), ("b", (), 2)), {"t": (), "s": ("b", "a")})
        self.assertTrue(one == other)

    def test_no_sets(self):
        self.assertTrue(Edition(elder_rows()) == Edition(elder_rows(), {}))

    def test_each_single_difference(self):
        rows = [("a", ("x",), 1), ("b", (), 2)]
        one = Edition(rows, {"s": ["a"]})
        others = [
            Edition([("c", ("x",), 1), ("b", (), 2)], {"s": ["c"]}),
            Edition([("a", (), 1), ("b", (), 2)], {"s": ["a"]}),
            Edition([("a", ("y",), 1), ("b", (), 2)], {"s": ["a"]}),
            Edition([("a", ("x", "y"), 1), ("b", (), 2)], {"s": ["a"]}),
            Edition([("x", ("a",), 1), ("b", (), 2)], {"s": ["x"]}),
            Edition([("a", ("x",), 3), ("b", (), 2)], {"s": ["a"]}),
            Edition([("b", (), 2), ("a", ("x",), 1)], {"s": ["a"]}),
            Edition([("a", ("x",), 1)], {"s": ["a"]}),
            Edition([("a", ("x",), 1), ("b", (), 2), ("c", (), 3)], {"s": ["a"]}),
            Edition(rows),
            Edition(rows, {"s": ["b"]}),
            Edition(rows, {"s": ["a", "b"]}),
            Edition(rows, {"t": ["a"]}),
            Edition(rows, {"s": ["a"], "t": []}),
        ]
        for place, other in enumerate(others):
            with self.subTest(place):
                self.assertFalse(one == other)
                self.assertFalse(other == one)
                self.assertTrue(one != other)

    def test_any_other_value(self):
        edition = Edition([("a", (), 1)])
        for value in other_values():
            with self.subTest():
                self.assertIs(edition == value, False)
                self.assertIs(value == edition, False)
