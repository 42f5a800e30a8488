"""Callers that last, and those that do not: lasts."""

import random
import unittest

from growlists.callers import answer, is_written_for, size_of
from growlists.editions import Edition
from growlists.errors import BadCaller
from growlists.later import is_later, lasts
from growlists.newer import new_members
from tests.growth import (
    caller_by_chance, edition_by_chance, later_editions, least_many, rows_of, rule_by_chance, sets_of,
)
from tests.samples import elder, other_values, twice_over

LOW, MID, HIGH = ("name", "low"), ("name", "normal"), ("numbered", 9)
FIRST, LAST, ALL, BUSY, NONE = ("first",), ("last",), ("all",), ("set", "busy"), ("set", "none")
TRUE, FALSE = ("is", LOW, LOW), ("empty", ("all",))

# A caller, and with how many new members at least it answers otherwise in three(): by the rules ("end", []),
# ("end", ["busy", "none"]), ("any", []) and ("any", ["busy", "none"]). None where it lasts.
RULES = [("end", []), ("end", ["busy", "none"]), ("any", []), ("any", ["busy", "none"])]
CALLERS = [
    # What looks up and compares old members, and never touches new ones.
    (("text", MID), (None, None, None, None)),
    (("number", HIGH), (None, None, None, None)),
    (("is", MID, ("numbered", 5)), (None, None, None, None)),
    (("is", LOW, HIGH), (None, None, None, None)),
    (("less", LOW, HIGH), (None, None, None, None)),
    (("less", HIGH, LOW), (None, None, None, None)),
    (("in", MID, BUSY), (None, None, None, None)),
    (("in", LOW, BUSY), (None, None, None, None)),
    (("in", LOW, ALL), (None, None, None, None)),
    (("in", LOW, ("only", LOW)), (None, None, None, None)),
    # The ends of the edition.
    (("text", FIRST), (None, None, 1, 1)),
    (("text", LAST), (1, 1, 1, 1)),
    (("number", FIRST), (None, None, 1, 1)),
    (("number", LAST), (1, 1, 1, 1)),
    (("is", FIRST, LOW), (None, None, 1, 1)),
    (("is", LAST, HIGH), (1, 1, 1, 1)),
    (("is", LAST, LOW), (None, None, None, None)),
    (("less", FIRST, LAST), (None, None, None, None)),
    (("less", FIRST, LOW), (None, None, 1, 1)),
    (("less", HIGH, LAST), (1, 1, 1, 1)),
    (("in", LAST, BUSY), (1, 1, 1, 1)),
    (("in", FIRST, BUSY), (None, None, None, 1)),
    (("in", LAST, ("only", HIGH)), (1, 1, 1, 1)),
    # The ends of sets.
    (("text", ("first", BUSY)), (None, None, None, 1)),
    (("text", ("last", BUSY)), (None, 1, None, 1)),
    (("text", ("first", ALL)), (None, None, 1, 1)),
    (("number", ("last", ALL)), (1, 1, 1, 1)),
    (("text", ("first", NONE)), (None, 1, None, 1)),
    (("text", ("last", NONE)), (None, 1, None, 1)),
    (("text", ("first", ("only", MID))), (None, None, None, None)),
    (("text", ("last", ("only", LAST))), (1, 1, 1, 1)),
    (("text", ("last", ("but", ALL, BUSY))), (1, 1, 1, 1)),
    (("text", ("first", ("but", ALL, BUSY))), (None, None, 1, 1)),
    (("text", ("first", ("and", ALL, BUSY))), (None, None, None, 1)),
    (("text", ("last", ("and", NONE, BUSY))), (None, 1, None, 1)),
    (("text", ("last", ("or", NONE, ("only", LOW)))), (None, 1, None, 1)),
    (("is", ("first", BUSY), ("last", BUSY)), (None, None, None, None)),
    (("less", ("first", BUSY), ("last", NONE)), (None, 1, None, 1)),
    # Neighbours.
    (("text", ("next", LOW)), (None, None, 1, 1)),
    (("text", ("previous", HIGH)), (None, None, 1, 1)),
    (("text", ("next", HIGH)), (1, 1, 1, 1)),
    (("number", ("previous", LOW)), (None, None, 1, 1)),
    (("text", ("previous", LAST)), (1, 1, 1, 1)),
    (("text", ("next", FIRST)), (None, None, 1, 1)),
    (("is", ("next", ("previous", MID)), MID), (None, None, None, None)),
    (("is", ("previous", ("next", HIGH)), HIGH), (1, 1, 1, 1)),
    (("less", MID, ("next", MID)), (None, None, None, None)),
    (("text", ("next", ("next", HIGH))), (2, 2, 2, 2)),
    (("number", ("next", ("next", ("next", HIGH)))), (3, 3, 3, 3)),
    (("text", ("previous", ("previous", ("previous", HIGH)))), (None, None, 1, 1)),
    (("text", ("previous", ("previous", ("previous", LOW)))), (None, None, 3, 3)),
    (("is", ("next", ("next", ("next", ("next", HIGH)))), LAST), (4, 4, 4, 4)),
    (("in", ("next", LOW), BUSY), (None, None, 1, 1)),
    # Sizes and places.
    (("size", ALL), (1, 1, 1, 1)),
    (("size", BUSY), (None, 1, None, 1)),
    (("size", NONE), (None, 1, None, 1)),
    (("size", ("only", LAST)), (None, None, None, None)),
    (("size", ("but", ALL, BUSY)), (1, 1, 1, 1)),
    (("size", ("but", BUSY, ALL)), (None, None, None, None)),
    (("size", ("and", BUSY, NONE)), (None, 1, None, 1)),
    (("size", ("or", BUSY, NONE)), (None, 1, None, 1)),
    (("size", ("or", BUSY, ALL)), (1, 1, 1, 1)),
    (("size", ("and", BUSY, ("only", LAST))), (1, 1, 1, 1)),
    (("place", LOW), (None, None, 1, 1)),
    (("place", HIGH), (None, None, 1, 1)),
    (("place", LAST), (1, 1, 1, 1)),
    (("place", FIRST), (None, None, None, None)),
    (("place", ("last", NONE)), (None, 1, None, 1)),
    # Truths of sets.
    (("empty", BUSY), (None, None, None, None)),
    (("empty", NONE), (None, 1, None, 1)),
    (("empty", ALL), (None, None, None, None)),
    (("empty", ("but", ALL, ("or", BUSY, ("only", LOW)))), (1, 1, 1, 1)),
    (("empty", ("but", NONE, BUSY)), (None, 1, None, 1)),
    (("empty", ("and", NONE, ("only", LAST))), (None, 1, None, 1)),
    (("empty", ("but", BUSY, ("only", HIGH))), (None, None, None, None)),
    # Choices.
    (("if", ("is", LAST, HIGH), ("text", LOW), ("text", MID)), (1, 1, 1, 1)),
    (("if", ("is", LAST, HIGH), ("text", LOW), ("text", LOW)), (None, None, None, None)),
    (("if", ("is", LAST, HIGH), ("number", LOW), ("size", ("only", LAST))), (None, None, None, None)),
    (("if", ("is", LAST, HIGH), ("place", MID), ("number", LOW)), (None, None, 1, 1)),
    (("if", ("is", LAST, HIGH), ("empty", ALL), ("is", ("next", HIGH), LAST)), (1, 1, 1, 1)),
    (("if", ("is", LAST, HIGH), FALSE, ("less", ("next", HIGH), LAST)), (2, 2, 2, 2)),
    (("if", ("in", LAST, BUSY), TRUE, TRUE), (None, None, None, None)),
    (("if", ("empty", NONE), FALSE, ("less", ("first", NONE), ("last", NONE))), (None, 2, None, 2)),
    (("if", ("empty", NONE), ("size", ("only", LOW)), ("size", NONE)), (None, 2, None, 2)),
    (("if", ("less", MID, LOW), ("text", LAST), ("text", LOW)), (None, None, None, None)),
    (("text", ("if", ("in", LOW, BUSY), LAST, LOW)), (None, None, None, None)),
    (("text", ("if", ("in", MID, BUSY), LAST, LOW)), (1, 1, 1, 1)),
    (("size", ("if", ("is", FIRST, LOW), ("only", LOW), NONE)), (None, None, 1, 1)),
    (("if", ("is", ("next", HIGH), LAST), TRUE, FALSE), (1, 1, 1, 1)),
    (("else", ("text", ("next", HIGH)), ("text", LOW)), (1, 1, 1, 1)),
    (("else", ("text", LOW), ("text", ("next", HIGH))), (None, None, None, None)),
    (("else", ("text", ("previous", LOW)), ("text", MID)), (None, None, 1, 1)),
    (("else", ("text", ("next", ("next", HIGH))), ("text", LOW)), (2, 2, 2, 2)),
    (("else", ("is", ("next", HIGH), LAST), TRUE), (2, 2, 2, 2)),
    (("else", ("is", ("next", HIGH), LAST), FALSE), (1, 1, 1, 1)),
    (("text", ("else", ("first", NONE), LOW)), (None, 1, None, 1)),
    (("size", ("else", ("only", ("next", HIGH)), NONE)), (1, 1, 1, 1)),
    (("else", ("less", ("first", NONE), ("last", NONE)), FALSE), (None, 2, None, 2)),
    (("else", ("number", ("next", LAST)), ("number", ("previous", FIRST))), (None, None, None, None)),
    # Several new members in several sets.
    (("less", ("last", NONE), ("next", HIGH)), (None, 1, None, 1)),
    (("else", ("less", ("last", NONE), ("last", BUSY)), TRUE), (None, 1, None, 1)),
    (("else", ("is", ("next", ("first", NONE)), ("last", NONE)), FALSE), (None, 2, None, 2)),
    (("else", ("is", ("next", ("next", ("first", NONE))), ("last", NONE)), FALSE), (None, 3, None, 2)),
    (("else", ("less", ("next", ("first", NONE)), ("last", NONE)), FALSE), (None, 3, None, 2)),
    (("else", ("in", ("next", ("first", NONE)), NONE), FALSE), (None, 2, None, 2)),
    (("else", ("in", ("next", HIGH), ("but", BUSY, NONE)), FALSE), (None, 1, None, 1)),
    (("in", ("next", HIGH), ("and", BUSY, NONE)), (1, 1, 1, 1)),
    (("text", ("last", ("but", ("or", NONE, BUSY), ("and", NONE, BUSY)))), (None, 1, None, 1)),
    # A new member that is touched before it is asked whether it lies in a set.
    (("if", ("is", LAST, HIGH), ("size", NONE), ("size", NONE)), (None, 1, None, 1)),
    (("if", ("is", LAST, HIGH), ("size", BUSY), ("size", ("but", BUSY, NONE))), (None, 1, None, 1)),
    (("if", ("is", LAST, HIGH), ("empty", NONE), ("empty", NONE)), (None, 1, None, 1)),
]

# Callers that answer otherwise with many new members only, in lonely(): by ("end", ["s"]) and by ("any", ["s"]).
ALONE, SPARE = ("name", "a"), ("set", "s")
MANY = [
    (("else", ("in", ("next", ("next", ("next", ALONE))), SPARE), FALSE), (3, 3)),
    (("else", ("less", ("next", ("next", ("next", ("first", SPARE)))), LAST), FALSE), (5, 4)),
    (("else", ("in", ("next", ("next", ("next", ("first", SPARE)))), SPARE), FALSE), (4, 3)),
    (("else", ("less", ("last", SPARE), ("previous", ("previous", ("previous", LAST)))), FALSE), (5, 4)),
    (("is", ("next", ("next", ("next", ("next", ("next", ("next", ("first", SPARE))))))), LAST), (7, 6)),
    (("place", ("previous", ("previous", ("previous", ("previous", ("previous", ("previous", LAST))))))), (6, 6)),
    (("place", ("previous", ("previous", ("previous", ("previous", ("previous", ("previous", ALONE))))))), (None, 6)),
    (("place", ("previous", ("previous", ("previous", ("previous", ("previous", FIRST)))))), (None, None)),
    (("text", ("next", ("next", ("next", ("next", ("next", ("next", ("next", ("next", ALONE))))))))), (8, 8)),
    (("text", ("next", ("next", ("next", ("next", ("next", ("next", ("next", ("next", FIRST))))))))), (8, 8)),
]


def three():
    return Edition([("low", (), 1), ("mid", ("normal",), 5), ("high", (), 9)], {"busy": ["mid", "high"], "none": []})


def lonely():
    return Edition([("a", (), 1)], {"s": []})


class Found(unittest.TestCase):
    def check(self, edition, caller, rule, many):
        """Whether an edition with so many new members is found, None for none; how many there are in any case."""
        found = lasts(edition, caller, rule)
        if found is None:
            self.assertIsNone(many)
            return
        self.assertIsInstance(found, Edition)
        self.assertIs(is_later(edition, found, rule), True)
        self.assertEqual(len(new_members(edition, found)), many)
        self.assertEqual(len(found), len(edition) + many)
        self.assertNotEqual(answer(caller, found), answer(caller, edition))

    def check_least(self, edition, caller, rule, most):
        """Whether what is told is right, as far as editions with so many new members show it."""
        many = least_many(edition, caller, rule, most)
        found = lasts(edition, caller, rule)
        if many is None and found is not None:
            many = len(found) - len(edition)
            self.assertGreater(many, most)
        self.check(edition, caller, rule, many)
        return many


class Callers(Found):
    def test_each_caller_by_each_rule(self):
        for caller, least in CALLERS:
            for rule, many in zip(RULES, least):
                with self.subTest((caller, rule)):
                    self.assertTrue(is_written_for(caller, three()))
                    self.assertLessEqual(size_of(caller), 10)
                    self.check(three(), caller, rule, many)
                    self.assertEqual(least_many(three(), caller, rule, 1), many if many == 1 else None)

    def test_two_and_three_new_members(self):
        for caller, least in CALLERS:
            if 2 in least or 3 in least:
                for rule, many in zip(RULES, least):
                    with self.subTest((caller, rule)):
                        self.assertEqual(least_many(three(), caller, rule, 3), many)

    def test_callers_that_last(self):
        for caller, least in CALLERS:
            for rule, many in zip(RULES[:3], least):
                if many is None:
                    with self.subTest((caller, rule)):
                        self.assertIsNone(least_many(three(), caller, rule, 2))

    def test_callers_that_last_with_all_sets(self):
        for caller, least in CALLERS:
            if least[3] is None and size_of(caller) > 4:
                with self.subTest(caller):
                    self.assertIsNone(least_many(three(), caller, RULES[3], 2))

    def test_some_of_the_sets(self):
        cases = [([], (None, None)), (["busy"], (1, None)), (["none"], (None, 1)), (["none", "busy"], (1, 1))]
        for grown, sizes in cases:
            for where in ("end", "any"):
                with self.subTest((where, grown)):
                    self.check(three(), ("size", BUSY), (where, grown), sizes[0])
                    self.check(three(), ("empty", NONE), (where, grown), sizes[1])
                    self.check(three(), ("text", ("last", BUSY)), (where, grown), sizes[0])
                    self.check(three(), ("in", ("next", ("last", BUSY)), BUSY), (where, grown), 1)

    def test_many_new_members(self):
        for caller, least in MANY:
            self.assertLessEqual(size_of(caller), 10)
            for where, many in zip(("end", "any"), least):
                with self.subTest((caller, where)):
                    self.check(lonely(), caller, (where, ["s"]), many)
                    self.assertIsNone(least_many(lonely(), caller, (where, ["s"]), min((many or 9) - 1, 4)))


    def test_a_new_member_in_both_sets(self):
        edition = Edition([("a", (), 1)], {"s": [], "t": ["a"]})
        # As long as all members lie in t, the size of s is told.
        caller = ("if", ("empty", ("but", ALL, ("set", "t"))), ("size", SPARE), ("place", ALONE))
        for grown, many in (([], None), (["s"], None), (["t"], None), (["s", "t"], 1), (["t", "s"], 1)):
            self.check(edition, caller, ("end", grown), many)
            self.assertEqual(least_many(edition, caller, ("end", grown), 3), many)


class ByChance(Found):
    def run_all(self, seeds, members, sets, most):
        seen = {}
        for seed in seeds:
            chance = random.Random(seed)
            edition = edition_by_chance(chance, members, sets)
            rule = rule_by_chance(chance, edition)
            caller = caller_by_chance(chance, edition, 10)
            with self.subTest(seed):
                many = self.check_least(edition, caller, rule, most)
                seen[many] = seen.get(many, 0) + 1
        self.assertLessEqual({None, 1, 2}, set(seen))
        return seen

    def test_small_editions(self):
        self.run_all(range(1500), 1, 1, 4)

    def test_two_sets(self):
        self.run_all(range(2000, 3000), 2, 2, 2)

    def test_larger_editions(self):
        self.run_all(range(4000, 4250), 4, 3, 1)


class Wrong(unittest.TestCase):
    def check(self, edition, caller, rule):
        with self.assertRaises(BadCaller) as caught:
            lasts(edition, caller, rule)
        self.assertTrue(type(caught.exception) is BadCaller)
        self.assertTrue(caught.exception.value is caller)

    def wrong_callers(self):
        top, idle, two = ("name", "top"), ("set", "idle"), ("numbered", 2)
        return [
            *other_values(), ("first",), ("set", "busy"), ["text", LOW], ("text", list(LOW)), ("text", "low"),
            ("text",),
            ("is", LOW), ("is", LOW, BUSY), ("size", LOW), ("less", LOW, LOW, LOW), ("numbered", 1), ("text", BUSY),
            ("text", ("first", LOW)), ("text", ("numbered", True)), ("text", ("name", "LOW")),
            ("if", TRUE, ("text", LOW), TRUE),
            ("or", BUSY, BUSY), ("text", twice_over(LOW)), ("size", twice_over(("set", "idle"))),
            # Callers that are not written for the edition.
            ("text", top), ("text", ("name", "busy")), ("size", idle), ("size", ("set", "low")), ("number", two),
            ("number", ("numbered", 0)), ("number", ("numbered", -9)), ("is", LOW, top), ("in", LOW, idle),
            ("in", LOW, ("or", BUSY, idle)),
            ("if", TRUE, ("text", LOW), ("text", top)), ("else", TRUE, ("empty", idle)), ("text", ("else", LOW, two)),
            ("else", ("text", ("next", HIGH)), ("text", ("numbered", 10 ** 59))),
            # Callers with entries.
            ("text", ("entry", "top")), ("text", ("entry", "low")), ("is", LOW, ("entry", "mid")),
            ("text", ("else", LOW, ("entry", "normal"))), ("if", TRUE, TRUE, ("in", ("entry", "low"), BUSY)),
            ("size", ("only", ("entry", "high"))),
        ]

    def test_wrong_callers(self):
        for caller in self.wrong_callers():
            for rule in (("end", []), ("any", ["busy"])):
                self.check(elder(), caller, rule)

    def test_before_bad_rule(self):
        for caller in self.wrong_callers()[::3]:
            for rule in (None, ("end",), ("any", ["idle"]), ("any", ("busy",)), ["end", []], ("start", [])):
                self.check(elder(), caller, rule)

    def test_written_for_another_edition(self):
        self.check(elder(), ("empty", NONE), ("any", []))
        self.check(lonely(), ("text", LOW), ("any", []))


class Limits(Found):
    def test_sixteen_members(self):
        rows = [("m" + word, (), ord(word)) for word in "abcdefghijklmnop"]
        for many, lines in ((16, (None, None, None)), (15, (1, None, None)), (14, (1, 2, None)), (13, (1, 2, 3))):
            edition = Edition(rows[:many], {"s": []})
            last = ("name", rows[many - 1][0])
            for rule in (("end", []), ("any", ["s"])):
                deed = last
                for least in lines:
                    deed = ("next", deed)
                    with self.subTest((many, least, rule)):
                        self.check(edition, ("text", deed), rule, least)
            self.check(edition, ("size", ("all",)), ("any", []), lines[0])
            self.check(edition, ("place", ("first",)), ("any", []), None)
            self.check(edition, ("place", last), ("any", []), lines[0])
            self.check(edition, ("empty", ("set", "s")), ("end", ["s"]), lines[0])
            two = ("else", ("less", ("first", SPARE), ("last", SPARE)), FALSE)
            self.check(edition, two, ("any", ["s"]), lines[1])

    def test_somewhat_larger_editions_and_callers(self):
        edition = Edition([(word, (), ord(word)) for word in "abcdef"], {"s": ["a"], "t": [], "u": ["c", "d"]})
        deed = ("last",)
        for _ in range(10):
            deed = ("next", ("previous", deed))
        for rule in (("end", []), ("any", ["s", "t", "u"])):
            self.check(edition, ("is", deed, ("last",)), rule, None)
            self.check(edition, ("text", deed), rule, 1)

    def test_names_and_numbers_of_new_members(self):
        words = [chr(ord("a") + at) for at in range(26)]
        aliases = tuple(words[1:] + [one + other for one in words for other in words][:500])
        numbers = [10 ** 9 - at for at in range(12)]
        rows = [("zz" + word, (), number) for word, number in zip(words, numbers[1:])]
        edition = Edition([("a", aliases, numbers[0]), *rows])
        self.check(edition, ("text", ("last",)), ("any", []), 1)
        self.check(edition, ("number", ("first",)), ("any", []), 1)
        self.check(edition, ("number", ("next", ("next", ("name", "zzk")))), ("end", []), 2)

    def test_a_number_that_is_a_size(self):
        edition = Edition([("a", (), 7), ("b", (), 1)])
        last_is_b = ("is", ("last",), ("name", "b"))
        one, place = ("number", ("name", "b")), ("place", ("name", "b"))
        self.check(edition, ("if", last_is_b, ("size", ALL), ("number", LAST)), ("end", []), 1)
        self.check(edition, ("if", last_is_b, one, ("place", ("previous", LAST))), ("end", []), 2)
        self.check(edition, ("if", last_is_b, one, place), ("end", []), None)
        self.check(edition, ("if", last_is_b, one, place), ("any", []), 2)


class Given(unittest.TestCase):
    def test_nothing_is_changed(self):
        one = three()
        for caller, _ in CALLERS[::5]:
            rule = ("any", ["none", "busy"])
            lasts(one, caller, rule)
            self.assertEqual(rule, ("any", ["none", "busy"]))
            self.assertEqual(one, three())
            self.assertEqual((rows_of(one), sets_of(one)), (rows_of(three()), sets_of(three())))

    def test_a_caller_that_lasts_answers_alike(self):
        chance = random.Random(5)
        many = 0
        while many < 40:
            edition = edition_by_chance(chance, 3, 2)
            rule = rule_by_chance(chance, edition)
            caller = caller_by_chance(chance, edition, 9)
            if lasts(edition, caller, rule) is None:
                many += 1
                told = answer(caller, edition)
                for new in (0, 1, 2):
                    for later in later_editions(edition, rule, new):
                        self.assertEqual(answer(caller, later), told)


if __name__ == "__main__":
    unittest.main()
