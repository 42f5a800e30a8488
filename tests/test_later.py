"""Later editions: is_later, and the rules of growth."""

import copy
import random
import unittest

from growlists.editions import Edition
from growlists.errors import BadRule
from growlists.later import is_later, lasts
from growlists.newer import lost_name, new_members
from tests.growth import edition_by_chance, later_editions, rows_of, rule_by_chance, sets_of
from tests.samples import edition_of, elder, newer, other_values, twice_over

ROWS = [("a", (), 1), ("b", ("x", "y"), 2), ("c", (), 3)]
SETS = {"s": ["a", "b"], "t": [], "u": ["c"]}
NEW = ("n", (), 9)
RULES = [(where, grown) for where in ("end", "any") for grown in ([], ["s"], ["t", "s"], ["s", "t", "u"])]


def first():
    return Edition(ROWS, SETS)


def with_rows(rows, **sets):
    """An edition with other members, and other sets where they are given."""
    return Edition(rows, {**SETS, **sets})


class Members(unittest.TestCase):
    def check(self, later, wheres, grown=()):
        """Whether an edition is a later one by rules with these words, and by no others."""
        for where in ("end", "any"):
            with self.subTest(where):
                self.assertIs(is_later(first(), later, (where, list(grown))), where in wheres)
                self.assertIs(is_later(first(), later, (where, ["u", "s", "t"])), where in wheres)

    def test_itself(self):
        self.check(first(), ("end", "any"))
        self.check(Edition([("a", (), 1), ("b", ("y", "x"), 2), ("c", (), 3)], {"u": ("c",), "t": (), "s": ("b", "a")}),
                   ("end", "any"))
        edition = first()
        self.assertIs(is_later(edition, edition, ("end", [])), True)

    def test_a_new_member_at_the_end(self):
        self.check(with_rows([*ROWS, NEW]), ("end", "any"))
        self.check(with_rows([*ROWS, NEW, ("m", (), -5)]), ("end", "any"))
        self.check(with_rows([*ROWS, *[("new" + word, (), ord(word)) for word in "abcdefghijklm"]]), ("end", "any"))

    def test_a_new_member_before_and_between(self):
        for place in (0, 1, 2):
            self.check(with_rows([*ROWS[:place], NEW, *ROWS[place:]]), ("any",))
            self.check(with_rows([*ROWS[:place], NEW, *ROWS[place:], ("m", (), -5)]), ("any",))
            self.check(with_rows([*ROWS[:place], NEW, ("m", (), -5), *ROWS[place:]]), ("any",))
        self.check(with_rows([("k", (), 4), ROWS[0], ("l", (), 5), ROWS[1], ("m", (), 6), ROWS[2], NEW]), ("any",))

    def test_a_new_member_with_an_alias(self):
        self.check(with_rows([*ROWS, ("n", ("m",), 9)]), ())
        self.check(with_rows([*ROWS, NEW, ("k", ("l", "m"), 8)]), ())
        self.check(with_rows([("n", ("m",), 9), *ROWS]), ())

    def test_a_new_member_with_a_name_or_number_that_is_there(self):
        b = ("b", (), 2)
        self.check(with_rows([ROWS[0], b, ROWS[2], ("x", ("y",), 9)]), ())
        self.check(with_rows([ROWS[0], ("b", ("y",), 2), ROWS[2], ("x", (), 9)]), ())
        self.check(with_rows([ROWS[0], ("m", ("x", "y"), 2), ROWS[2], ("b", (), 9)]), ())
        self.check(with_rows([("a", (), 9), *ROWS[1:], ("n", (), 1)]), ())
        self.check(with_rows([("n", (), 1), ("a", (), 9), *ROWS[1:]]), ())

    def test_old_members_moved(self):
        self.check(with_rows([ROWS[1], ROWS[0], ROWS[2]]), ())
        self.check(with_rows([ROWS[0], ROWS[2], ROWS[1]]), ())
        self.check(with_rows([ROWS[2], NEW, ROWS[1], ROWS[0]]), ())

    def test_old_members_renamed(self):
        self.check(Edition([("d", (), 1), *ROWS[1:]], {**SETS, "s": ["d", "b"]}), ())
        self.check(Edition([("d", ("a",), 1), *ROWS[1:]], {**SETS, "s": ["d", "b"]}), ())
        self.check(Edition([ROWS[0], ("x", ("b", "y"), 2), ROWS[2]], {**SETS, "s": ["a", "x"]}), ())
        self.check(Edition([*ROWS[:2], ("d", ("c",), 3)], {**SETS, "u": ["d"]}), ())

    def test_old_members_renumbered(self):
        for place in (0, 1, 2):
            name, aliases, number = ROWS[place]
            for other in (-number, 10, 0):
                self.check(with_rows([*ROWS[:place], (name, aliases, other), *ROWS[place + 1:]]), ())
        self.check(with_rows([("a", (), 3), ROWS[1], ("c", (), 1)]), ())

    def test_old_members_lost(self):
        self.check(Edition(ROWS[:2], {**SETS, "u": []}), ())
        self.check(Edition(ROWS[1:], {**SETS, "s": ["b"]}), ())
        self.check(Edition([ROWS[0], ROWS[2]], {**SETS, "s": ["a"]}), ())
        self.check(Edition([*ROWS[:2], NEW], {**SETS, "u": []}), ())
        self.check(Edition([*ROWS[:2], NEW], {**SETS, "u": ["n"]}), ())
        self.check(Edition([NEW], {"s": [], "t": [], "u": []}), ())

    def test_an_alias_more_or_less(self):
        for aliases in ((), ("x",), ("y",), ("x", "y", "z"), ("x", "z")):
            self.check(with_rows([ROWS[0], ("b", aliases, 2), ROWS[2]]), ())
        self.check(with_rows([("a", ("z",), 1), *ROWS[1:]]), ())
        self.check(with_rows([("a", ("x",), 1), ("b", ("y",), 2), ROWS[2]]), ())
        self.check(with_rows([*ROWS[:2], ("c", ("n",), 3)]), ())

    def test_names_of_sets_are_no_names_of_members(self):
        self.check(with_rows([*ROWS, ("s", (), 9)]), ("end", "any"))


class Sets(unittest.TestCase):
    def check(self, later, grown_sets):
        """Whether an edition is a later one by just the rules that have all of these sets."""
        for where, grown in RULES:
            told = grown_sets is not None and set(grown_sets) <= set(grown)
            with self.subTest((where, grown)):
                self.assertIs(is_later(first(), later, (where, grown)), told)

    def test_a_new_member_in_sets(self):
        self.check(with_rows([*ROWS, NEW]), [])
        self.check(with_rows([*ROWS, NEW], s=["a", "b", "n"]), ["s"])
        self.check(with_rows([*ROWS, NEW], t=["n"]), ["t"])
        self.check(with_rows([*ROWS, NEW], u=["n", "c"]), ["u"])
        self.check(with_rows([*ROWS, NEW], s=["n", "a", "b"], t=["n"]), ["s", "t"])
        self.check(with_rows([*ROWS, NEW, ("m", (), 8)], t=["m"], u=["c", "n"]), ["t", "u"])
        every = with_rows([*ROWS, NEW, ("m", (), 8)], s=["a", "b", "m"], t=["m", "n"], u=["c", "n"])
        self.check(every, ["s", "t", "u"])

    def test_an_old_member_more(self):
        self.check(with_rows(ROWS, s=["a", "b", "c"]), None)
        self.check(with_rows(ROWS, t=["a"]), None)
        self.check(with_rows([*ROWS, NEW], s=["a", "b", "c", "n"]), None)
        self.check(with_rows([*ROWS, NEW], t=["a"]), None)

    def test_an_old_member_less(self):
        self.check(with_rows(ROWS, s=["a"]), None)
        self.check(with_rows(ROWS, s=[]), None)
        self.check(with_rows(ROWS, u=[]), None)
        self.check(with_rows([*ROWS, NEW], s=["b", "n"]), None)
        self.check(with_rows([*ROWS, NEW], u=["n"]), None)

    def test_an_old_member_exchanged(self):
        self.check(with_rows(ROWS, s=["a", "c"]), None)
        self.check(with_rows([*ROWS, NEW], u=["b", "n"]), None)

    def test_a_set_more_or_less(self):
        two = {"s": SETS["s"], "t": []}
        for where, grown in (("end", []), ("any", []), ("any", ["s"]), ("end", ["t", "s"])):
            with self.subTest((where, grown)):
                edition = Edition(ROWS, two)
                self.assertIs(is_later(edition, Edition(ROWS, two), (where, grown)), True)
                self.assertIs(is_later(edition, Edition(ROWS, {**two, "u": []}), (where, grown)), False)
                self.assertIs(is_later(edition, Edition([*ROWS, NEW], {**two, "u": ["n"]}), (where, grown)), False)
                self.assertIs(is_later(edition, Edition(ROWS, {"s": SETS["s"], "v": []}), (where, grown)), False)
                self.assertIs(is_later(edition, Edition(ROWS, {"a": SETS["s"], "t": []}), (where, grown)), False)
                self.assertIs(is_later(edition, Edition([*ROWS, NEW], {"s": SETS["s"]}), (where, grown)), False)
                self.assertIs(is_later(edition, Edition(ROWS), (where, grown)), False)
        self.assertIs(is_later(Edition(ROWS), Edition(ROWS, {"s": []}), ("any", [])), False)
        self.assertIs(is_later(Edition(ROWS), Edition([NEW, *ROWS]), ("any", [])), True)

    def test_every_later_edition_of_some(self):
        chance = random.Random(1)
        for _ in range(30):
            edition = edition_by_chance(chance, 3, 2)
            where, grown = rule_by_chance(chance, edition)
            for many in (0, 1, 2):
                for later in later_editions(edition, ("any", edition.sets), many):
                    old, new = edition.names, [name for name in later.names if name not in edition]
                    touched = {word for word in edition.sets for name in later.group(word).names if name in new}
                    told = touched <= set(grown) and (where == "any" or later.names == old + new)
                    self.assertIs(is_later(edition, later, (where, grown)), told)
                    self.assertIsNone(lost_name(edition, later))
                    self.assertEqual(new_members(edition, later), new)
                    self.assertIs(is_later(later, edition, (where, grown)), many == 0)


class Rules(unittest.TestCase):
    def wrong_rules(self):
        return [
            *other_values(), ["end", []], ["any", ["busy"]], {"end": []}, {"any": ["busy"]}, "end", "any",
            ("end",), ("any",), (["busy"],), ("end", [], []), ("any", ["busy"], None), ([], "end"), (["busy"], "any"),
            ("End", []), ("ANY", []), ("", []), ("all", []), ("end ", []), ("start", []), ("busy", []), (0, []),
            (None, []), (True, []), (False, ["busy"]), (("end",), []), (["end"], []), ({"end": 1}, []), (elder(), []),
            ("end", ()), ("any", ("busy",)), ("any", "busy"), ("any", "b"), ("any", ""), ("any", {"busy": True}),
            ("any", {}), ("end", None), ("end", True), ("end", 0), ("any", elder()), ("any", elder().group("busy")),
            ("any", ["low"]), ("any", ["busy", "idle"]), ("any", ["idle", "busy"]), ("any", ["Busy"]), ("any", [""]),
            ("any", ["busy "]), ("any", [None]), ("any", [True]), ("any", [0]), ("any", ["busy", 1]),
            ("any", [["busy"]]), ("any", [("busy",)]), ("any", [{"busy": 1}]), ("any", [elder()]),
            ("any", [elder().group("busy")]),
            ("end", ["normal"]), ("end", [twice_over(("busy",))]), (twice_over(("end",)), []),
        ]

    def test_is_later(self):
        for rule in self.wrong_rules():
            for later in (elder(), newer(), edition_of("a")):
                with self.assertRaises(BadRule) as caught:
                    is_later(elder(), later, rule)
                self.assertTrue(type(caught.exception) is BadRule and caught.exception.value is rule)

    def test_lasts(self):
        for rule in self.wrong_rules():
            for caller in (("text", ("first",)), ("is", ("first",), ("last",))):
                with self.assertRaises(BadRule) as caught:
                    lasts(elder(), caller, rule)
                self.assertTrue(type(caught.exception) is BadRule and caught.exception.value is rule)

    def test_the_sets_are_those_of_the_edition(self):
        edition = Edition([("a", (), 1)])
        later = Edition([("a", (), 1)], {"s": []})
        caller = ("text", ("first",))
        for do in (lambda rule: is_later(edition, later, rule), lambda rule: lasts(edition, caller, rule)):
            for rule in (("any", ["s"]), ("end", ["a"])):
                with self.assertRaises(BadRule) as caught:
                    do(rule)
                self.assertTrue(caught.exception.value is rule)

    def test_rules(self):
        for where in ("end", "any"):
            for grown in ([], ["s"], ["t", "s"], ["u", "s", "t"]):
                self.assertIs(is_later(first(), first(), (where, grown)), True)
                self.assertIsNone(lasts(first(), ("text", ("name", "a")), (where, grown)))

    def test_a_set_twice(self):
        later = with_rows([*ROWS, NEW], s=["a", "b", "n"])
        self.assertIs(is_later(first(), later, ("end", ["s", "s"])), True)
        self.assertIs(is_later(first(), later, ("end", ["t", "t"])), False)
        self.assertEqual(len(lasts(first(), ("size", ("set", "s")), ("end", ["s", "s"]))), 4)

    def test_nothing_given_is_changed(self):
        for rule in (("end", ["u", "s"]), ("any", ["s", "s"]), ("any", ["v"])):
            one, later, held = first(), with_rows([*ROWS, NEW], s=["a", "n", "b"]), copy.deepcopy(rule)
            for do in (lambda: is_later(one, later, rule), lambda: lasts(one, ("size", ("set", "s")), rule)):
                try:
                    do()
                except BadRule:
                    self.assertEqual(rule, ("any", ["v"]))
                self.assertEqual(rule, held)
                self.assertEqual((one, later), (first(), with_rows([*ROWS, NEW], s=["a", "n", "b"])))
                self.assertEqual((rows_of(one), sets_of(one)), (ROWS, SETS))
