"""What is evidence that kinds are kept, and what is not."""

import copy
import random
import unittest

from growlists.editions import Edition
from growlists.keeping import is_evidence, kept
from growlists.newer import new_members
from growlists.pairs import reached
from tests.evidence_oracle import is_right_evidence, near_values
from tests.oracle import random_editions, random_kinds, random_names
from tests.samples import edition_of, elder, newer, other_values, twice_over

LOW, MID, HIGH = ("low", "low"), ("mid", "mid"), ("high", "high")
SAME = [LOW, MID, HIGH]
LONE, BUSY = (("low",), ("low",)), (("mid", "high"), ("mid", "high", "top"))
WHOLE = (("low", "mid", "high"), ("low", "mid", "high", "top"))


class Evidence(unittest.TestCase):
    def check(self, told, kinds, pairs, parts, old=None, new=None, **more):
        value = (pairs, parts)
        held = copy.deepcopy(value)
        old = elder() if old is None else old
        new = newer() if new is None else new
        self.assertIs(is_evidence(old, new, kinds, value, **more), told)
        self.assertEqual(value, held)
        self.assertIs(is_right_evidence(old, new, kinds, value, **more), told)


class Pairs(Evidence):
    def test_what_is_reached(self):
        self.check(True, ["is"], SAME, [])
        self.check(True, ["less", "all"], SAME, [WHOLE])
        self.check(True, ["sets", "all"], SAME, [LONE, BUSY])
        self.check(True, ["is"], [], [], names=[])

    def test_what_is_reached_where_kinds_are_not_kept(self):
        self.check(False, ["is", "ends"], [*SAME, ("high", "top")], [])
        self.check(False, ["all", "counts"], SAME, [WHOLE])
        self.check(False, ["sets", "only"], SAME, [((), ("top",)), LONE, (("mid",), ("mid",)), (("high",), ("high",))])
        self.check(False, ["is", "steps"], SAME, [])

    def test_a_name_is_lacking(self):
        for at in range(3):
            self.check(False, ["is"], SAME[:at] + SAME[at + 1:], [])
        self.check(False, ["is"], [], [])
        self.check(False, ["is"], [LOW], [], names=["low", "normal"])
        self.check(True, ["is"], [LOW, MID], [], names=["low", "normal"])

    def test_an_entry_is_lacking(self):
        self.check(True, ["is"], [LOW, ("high", "top")], [], names=["low"], fallbacks={"top": "high"})
        self.check(False, ["is"], [LOW], [], names=["low"], fallbacks={"top": "high"})
        self.check(False, ["is"], [LOW, ("mid", "top")], [], names=["low"], fallbacks={"top": "high"})
        self.check(True, ["is"], [LOW, ("mid", "top")], [], names=["low"])

    def test_more_than_is_reached(self):
        self.check(True, ["is"], [LOW, MID], [], names=["low"])
        self.check(True, ["is"], [LOW, ("high", "top")], [], names=["low"])
        self.check(False, ["is"], [LOW, ("low", "top")], [], names=["low"])
        self.check(False, ["is"], [*SAME, ("high", "top")], [])
        self.check(False, ["less"], [LOW, ("mid", "top"), HIGH], [], names=["low"])

    def test_a_pair_in_place_of_another_one(self):
        self.check(False, ["is"], [LOW, MID, ("high", "top")], [])
        self.check(False, ["is"], [MID, LOW, ("low", "high")], [])

    def test_a_pair_twice(self):
        self.check(False, ["is"], [LOW, MID, HIGH, MID], [])

    def test_other_sequences(self):
        self.check(True, ["is"], [HIGH, LOW, MID], [])
        self.check(True, ["sets", "all"], [MID, HIGH, LOW], [BUSY, LONE])

    def test_ends_are_among_the_pairs(self):
        old = edition_of("a b c")
        self.check(True, ["is", "ends"], [("a", "a"), ("c", "c")], [], old, old, names=[])
        self.check(False, ["is", "ends"], [("a", "a")], [], old, old, names=[])
        self.check(False, ["is", "ends"], [("c", "c"), ("b", "b")], [], old, old, names=[])

    def test_ends_of_sets_are_among_the_pairs(self):
        old = edition_of("p a b q", {"s": ["a", "b"]})
        part = (("a", "b"), ("a", "b"))
        a, b, ends = ("a", "a"), ("b", "b"), [("p", "p"), ("q", "q")]
        self.check(True, ["is", "sets", "ends"], [*ends, a, b], [part], old, old, names=[])
        self.check(False, ["is", "sets", "ends"], [*ends, a], [part], old, old, names=[])
        self.check(False, ["is", "sets", "ends"], [*ends, b], [part], old, old, names=[])
        self.check(True, ["is", "sets"], ends, [part], old, old, names=[])

    def test_ends_of_unions_are_among_the_pairs(self):
        sets = {"s": ["a", "c"], "t": ["b", "d"]}
        old, new = edition_of("p a b c d q", sets), edition_of("p b a d c q", sets)
        pairs = [(name, name) for name in "pabcdq"]
        parts = [(("a", "c"), ("a", "c")), (("b", "d"), ("b", "d"))]
        self.check(True, ["is", "sets"], pairs, parts, old, new)
        # Of both sets together, a is the first one in the elder edition, and b in the newer one.
        self.check(False, ["is", "sets", "ends"], pairs, parts, old, new)
        kinds = ["sets", "all", "ends"]
        parts.append((("p", "q"), ("p", "q")))
        crossed = [("a", "b"), ("b", "a"), ("c", "d"), ("d", "c")]
        self.check(False, kinds, pairs, parts, old, new)
        self.check(False, kinds, [*pairs, *crossed], parts, old, new)

    def test_neighbours_are_among_the_pairs(self):
        old = edition_of("a b c")
        same = [("a", "a"), ("b", "b"), ("c", "c")]
        self.check(True, ["is", "steps"], same, [], old, old, names=["b"])
        self.check(False, ["is", "steps"], same[:2], [], old, old, names=["b"])
        self.check(False, ["is", "steps"], same[1:], [], old, old, names=["b"])
        self.check(True, ["is", "steps"], [], [], old, old, names=[])

    def test_lookups_are_among_the_pairs(self):
        old, new = edition_of("a b c"), edition_of("a b c n", numbers=[1, 3, 2, 4])
        pairs = [("a", "a"), ("b", "c"), ("c", "b")]
        self.check(True, ["is", "lookups"], pairs, [], old, new, names=[])
        self.check(False, ["is", "lookups"], pairs[:2], [], old, new, names=[])
        self.check(False, ["is", "lookups"], [("a", "a"), ("b", "b"), ("c", "c")], [], old, new, names=[])
        self.check(True, ["is"], [("a", "a"), ("b", "b"), ("c", "c")], [], old, new)

    def test_one_side_fails_alone(self):
        self.check(True, ["is", "steps"], [], [], names=[])
        self.check(False, ["is", "steps"], SAME, [], names=[])
        self.check(False, ["is", "steps"], [("high", "top"), ("mid", "high"), ("low", "mid")], [], names=[])
        lacking = edition_of("a b", numbers=[1, 7])
        self.check(False, ["is", "lookups"], [("a", "a"), ("b", "b")], [], edition_of("a b"), lacking)


class Parts(Evidence):
    def test_without_sets(self):
        self.check(False, ["less"], SAME, [WHOLE])
        self.check(False, ["less", "all"], SAME, [])
        self.check(False, ["less", "all"], SAME, [LONE, BUSY])
        self.check(False, ["less", "all"], SAME, [WHOLE, WHOLE])
        self.check(False, ["less", "all"], SAME, [(("low", "mid", "high"), ("low", "mid", "high"))])
        self.check(False, ["less", "all"], SAME, [(("low", "mid"), ("low", "mid", "high", "top"))])

    def test_a_part_left_out(self):
        self.check(False, ["sets", "all"], SAME, [BUSY])
        self.check(False, ["sets", "all"], SAME, [LONE])
        self.check(False, ["sets", "all"], SAME, [])
        self.check(False, ["sets", "is"], SAME, [LONE])
        self.check(True, ["sets", "is"], SAME, [BUSY])

    def test_a_part_put_in(self):
        self.check(True, ["sets", "is"], SAME, [LONE, BUSY])
        self.check(False, ["sets", "all"], SAME, [LONE, BUSY, LONE])
        self.check(False, ["sets", "is"], SAME, [BUSY, (("low",), ())])
        self.check(False, ["sets", "is"], SAME, [BUSY, ((), ("low",))])
        self.check(False, ["sets", "is"], SAME, [BUSY, ((), ())])
        self.check(False, ["sets", "all"], SAME, [LONE, BUSY, ((), ())])

    def test_parts_joined(self):
        self.check(False, ["sets", "all"], SAME, [WHOLE])
        bare = Edition([("low", (), 1), ("mid", ("normal",), 5), ("high", (), 9)])
        self.check(True, ["sets", "all"], SAME, [(WHOLE[0], WHOLE[0])], bare, bare)
        self.check(True, ["sets", "all"], SAME, [LONE, (WHOLE[0][1:], WHOLE[0][1:])], bare, bare)

    def test_parts_split(self):
        mid, high = (("mid",), ("mid",)), (("high",), ("high",))
        self.check(True, ["sets", "all"], SAME, [LONE, mid, (("high",), ("high", "top"))])
        self.check(True, ["sets", "all"], SAME, [(("high",), ("high", "top")), LONE, mid])
        self.check(True, ["sets", "all"], SAME, [LONE, (("mid",), ("mid", "top")), high])
        self.check(False, ["sets", "all"], SAME, [LONE, mid, high])
        self.check(False, ["sets", "all"], SAME, [LONE, mid, high, ((), ("top",))])
        self.check(False, ["sets", "all"], SAME, [LONE, (("mid",), ("high", "top")), (("high",), ("mid",))])
        self.check(False, ["sets", "all"], SAME, [LONE, (("mid",), ()), (("high",), ("mid", "high", "top"))])

    def test_a_member_exchanged(self):
        self.check(False, ["sets", "all"], SAME, [(("low",), ("mid",)), (("mid", "high"), ("low", "high", "top"))])
        self.check(False, ["sets", "all"], SAME, [(("low",), ("low", "top")), (("mid", "high"), ("mid", "high"))])

    def test_parts_that_share_a_member(self):
        old = edition_of("a b c", {"s": ["a", "b"], "t": ["b", "c"]})
        same = [(name, name) for name in "abc"]
        first, second = (("a", "b"), ("a", "b")), (("b", "c"), ("b", "c"))
        self.check(False, ["sets", "is"], same, [first, second], old, old)
        self.check(True, ["sets", "is"], same, [((name,), (name,)) for name in "abc"], old, old)
        self.check(False, ["sets", "is"], SAME, [(("mid",), ("mid", "top")), (("high",), ("high", "top"))])
        new = edition_of("a b c", {"s": ["a"], "t": ["b", "c"]})
        self.check(False, ["sets", "is"], [], [(("a", "b"), ("a",)), (("b", "c"), ("b", "c"))], old, new, names=[])

    def test_parts_that_share_a_newer_member(self):
        old = edition_of("a b", {"s": ["a"], "t": ["b"]})
        new = edition_of("a b", {"s": ["a"], "t": ["a"]})
        self.check(False, ["sets", "is"], [], [(("a",), ("a",)), (("b",), ("a",))], old, new, names=[])
        self.check(False, ["sets", "is"], [], [(("a",), ("a",)), (("a",), ("b",))], new, old, names=[])

    def test_named_sets_are_unions(self):
        old = edition_of("a b c d", {"s": ["a", "b", "c"], "t": []})
        same = [(name, name) for name in "abcd"]
        parts = [((name,), (name,)) for name in "cab"]
        self.check(True, ["sets", "is"], same, parts, old, old)
        self.check(False, ["sets", "is"], same, parts[1:], old, old)
        self.check(True, ["sets", "is"], same, [(("a", "c"), ("a", "c")), (("b",), ("b",))], old, old)
        self.check(False, ["sets", "is"], same, [(("a", "d"), ("a", "d")), *parts[::2]], old, old)
        new = edition_of("a b c d", {"s": ["a", "b"], "t": []})
        self.check(False, ["sets", "is"], same, parts, old, new)
        self.check(False, ["sets", "is"], [], parts, old, new, names=[])
        new = edition_of("a b c d", {"s": ["a", "b", "c"], "t": ["d"]})
        self.check(False, ["sets", "is"], same, parts, old, new)
        self.check(False, ["sets", "is"], same, [*parts, (("d",), ("d",))], old, new)

    def test_sets_of_one_member_are_unions(self):
        one, other = elder(), elder()
        ones = [LONE, (("mid",), ("mid",)), (("high",), ("high",))]
        self.check(True, ["sets", "only"], SAME, ones, one, other)
        self.check(False, ["sets", "only"], SAME, ones[1:], one, other)
        self.check(False, ["sets", "only"], SAME, [LONE, (("mid", "high"), ("mid", "high"))], one, other)
        self.check(True, ["sets", "only"], [LOW], [LONE, (("mid", "high"), ("mid", "high"))], one, other, names=["low"])
        self.check(False, ["sets", "only"], [LOW, MID], [LONE, (("mid", "high"), ("mid", "high"))], one, other,
                   names=["low"])

    def test_sizes_of_parts(self):
        self.check(False, ["sets", "counts"], SAME, [BUSY])
        self.check(True, ["sets", "counts"], SAME, [(("mid", "high"), ("mid", "high"))], elder(), elder())
        self.check(False, ["sets", "counts"], [], [BUSY], names=[])
        self.check(False, ["less", "counts"], [("low", "mid")], [], names=[])

    def test_members_lie_on_both_sides(self):
        old = edition_of("a b", {"s": ["a"]})
        new = edition_of("a b", {"s": ["b"]})
        self.check(True, ["sets", "is"], [], [(("a",), ("b",))], old, new, names=[])
        self.check(False, ["sets", "is"], [("a", "a")], [(("a",), ("b",))], old, new, names=[])
        self.check(False, ["sets", "is"], [("b", "b")], [(("a",), ("b",))], old, new, names=[])
        self.check(True, ["sets", "is"], [("a", "b"), ("b", "a")], [(("a",), ("b",))], old, new, names=[])


class Forms(unittest.TestCase):
    def check(self, value, kinds=("sets", "all")):
        self.assertIs(is_evidence(elder(), newer(), list(kinds), value), False)

    def test_the_value_itself(self):
        self.assertTrue(is_evidence(elder(), newer(), ["sets", "all"], (SAME, [LONE, BUSY])))
        for value in ([SAME, [LONE, BUSY]], (SAME,), (SAME, [LONE, BUSY], []), (), (tuple(SAME), [LONE, BUSY]),
                      (SAME, (LONE, BUSY)), ([LONE, BUSY], SAME), (SAME, None), (None, [LONE, BUSY]), {0: SAME},
                      (SAME, {LONE: True, BUSY: True}), ({pair: True for pair in SAME}, [LONE, BUSY])):
            self.check(value)

    def test_other_values(self):
        for value in other_values():
            self.check(value)
            self.check((value, []), ["is"])
            self.check((value, [LONE, BUSY]))
            self.check(([*SAME, value], [LONE, BUSY]))
            self.check((SAME, [LONE, BUSY, value]))
            self.check(([*SAME, (value, "top")], [LONE, BUSY]))
            self.check(([*SAME, ("high", value)], [LONE, BUSY]))
            self.check((SAME, [LONE, (value, BUSY[1])]))
            self.check((SAME, [LONE, (BUSY[0], value)]))
            self.check((SAME, [LONE, (("mid", "high", value), BUSY[1])]))
            self.check((SAME, [LONE, (BUSY[0], (value, "mid", "high", "top"))]))
            if value != []:
                self.assertIs(is_evidence(elder(), newer(), ["is"], (SAME, value)), False)

    def test_other_values_in_a_pair(self):
        for value in other_values():
            self.check(([LOW, MID, (value, "high")], [LONE, BUSY]))
            self.check(([LOW, MID, ("high", value)], [LONE, BUSY]))

    def test_aliases(self):
        self.check(([LOW, ("normal", "mid"), HIGH], [LONE, BUSY]))
        self.check(([LOW, ("mid", "normal"), HIGH], [LONE, BUSY]))
        self.check((SAME, [LONE, (("normal", "high"), ("mid", "high", "top"))]))
        self.check((SAME, [LONE, (("mid", "high"), ("normal", "high", "top"))]))

    def test_names_of_the_other_edition(self):
        self.check(([*SAME, ("top", "high")], [LONE, BUSY]))
        self.check((SAME, [LONE, (("mid", "high", "top"), ("mid", "high", "top"))]))

    def test_sides_in_another_sequence(self):
        self.check((SAME, [LONE, (("high", "mid"), ("mid", "high", "top"))]))
        self.check((SAME, [LONE, (("mid", "high"), ("mid", "top", "high"))]))
        self.check((SAME, [(("low", "mid", "high"), ("low", "mid", "top", "high"))]), ["less", "all"])

    def test_a_name_twice(self):
        self.check((SAME, [LONE, (("mid", "high", "high"), ("mid", "high", "top"))]))
        self.check((SAME, [LONE, (("mid", "high"), ("mid", "mid", "high", "top"))]))

    def test_lists_and_tuples(self):
        self.check(([LOW, MID, ["high", "high"]], [LONE, BUSY]))
        self.check((SAME, [list(LONE), BUSY]))
        self.check((SAME, [(["low"], ("low",)), BUSY]))
        self.check((SAME, [(("low",), ["low"]), BUSY]))
        self.check((SAME, [("low", "low"), BUSY]))

    def test_too_few_or_too_many(self):
        self.check(([*SAME, ("high",)], [LONE, BUSY]))
        self.check(([*SAME, ()], [LONE, BUSY]))
        self.check(([LOW, MID, ("high", "high", "high")], [LONE, BUSY]))
        self.check((SAME, [LONE, BUSY, ()]))
        self.check((SAME, [LONE, (BUSY[0],)]))
        self.check((SAME, [LONE, (*BUSY, ())]))

    def test_small_values_that_are_endless(self):
        endless = twice_over(("all",))
        for value in (endless, (endless, endless), ([endless], []), ([(endless, endless)], [(endless, endless)])):
            self.check(value)

    def test_arguments_by_name(self):
        told = is_evidence(value=([("mid", "mid"), ("high", "top")], []), kinds=["is"], newer=newer(), elder=elder(),
                           fallbacks={"top": "high"}, names=["mid"])
        self.assertIs(told, True)


class Many(unittest.TestCase):
    def test_values_near_what_is_reached(self):
        told = {True: 0, False: 0}
        for seed in range(400):
            chance = random.Random(seed)
            old, new = random_editions(chance)
            if chance.random() < 0.3:
                new = old
            kinds, names = random_kinds(chance), random_names(chance, old)
            fallbacks = chance.choice([None, {name: chance.choice(old.names) for name in new_members(old, new)}])
            found = reached(old, new, kinds, names=names, fallbacks=fallbacks)
            for _ in range(6):
                value = near_values(chance, old, new, ([], []) if found is None else found)
                right = is_right_evidence(old, new, kinds, value, names, fallbacks)
                given = is_evidence(old, new, kinds, value, names=names, fallbacks=fallbacks)
                self.assertIs(given, right, (seed, value))
                told[given] += 1
                if given:
                    self.assertTrue(kept(old, new, kinds, names=names, fallbacks=fallbacks))
        self.assertGreater(min(told.values()), 100)
