"""Greatest choices of kinds, and safe fallbacks."""

import random
import unittest
from itertools import combinations, product

from growlists.keeping import kept
from growlists.newer import new_members
from growlists.safety import greatest, safe_fallbacks
from tests.oracle import is_right_list, random_editions, random_kinds, random_names
from tests.samples import edition_of, elder, newer


def kept_choices(old, new, kinds, names, fallbacks):
    """The positions of all choices of kinds that are kept."""
    found = []
    for many in range(1, len(kinds) + 1):
        for places in combinations(range(len(kinds)), many):
            chosen = [kinds[place] for place in places]
            if is_right_list(chosen) and kept(old, new, chosen, names=names, fallbacks=fallbacks):
                found.append(list(places))
    return found


class Greatest(unittest.TestCase):
    def check(self, kinds, told, old=None, new=None, *, names=None, fallbacks=None):
        old = elder() if old is None else old
        new = newer() if new is None else new
        self.assertEqual(greatest(old, new, kinds, names=names, fallbacks=fallbacks), told)
        found = kept_choices(old, new, kinds, names, fallbacks)
        best = sorted(places for places in found if not any(set(places) < set(more) for more in found))
        self.assertEqual([[kinds[place] for place in places] for places in best], told)

    def test_one_kind(self):
        for kind in ("is", "less", "counts", "number", "text"):
            self.check([kind], [[kind]])
        self.check(["less"], [], edition_of("a b"), edition_of("b a"))

    def test_two_kinds(self):
        self.check(["sets", "all"], [["sets", "all"]])
        self.check(["sets", "only"], [])
        self.check(["text", "ends"], [["text"]])
        self.check(["ends", "text"], [["text"]])
        self.check(["counts", "all"], [["counts"]])
        self.check(["is", "less"], [["is", "less"]])
        self.check(["less", "is"], [["less", "is"]])

    def test_three_kinds(self):
        self.check(["sets", "only", "all"], [["sets", "all"]])
        self.check(["only", "is", "sets"], [["is", "sets"]])
        self.check(["steps", "is", "ends"], [["is"]])
        self.check(["ends", "all", "sets"], [["ends", "all", "sets"]])

    def test_four_kinds(self):
        self.check(["less", "all", "ends", "counts"], [["less", "all"], ["less", "counts"]])
        self.check(["counts", "ends", "all", "less"], [["counts", "less"], ["all", "less"]])
        self.check(["all", "steps", "sets", "ends"], [["all", "sets", "ends"]])

    def test_five_kinds(self):
        self.check(["choices", "counts", "sets", "number", "lookups"],
                   [["choices", "counts", "number", "lookups"], ["choices", "sets", "number", "lookups"]])
        self.check(["is", "sets", "all", "only", "counts"], [["is", "sets", "all"], ["is", "counts"]])

    def test_six_kinds(self):
        self.check(["is", "less", "all", "ends", "counts", "sets"],
                   [["is", "less", "all", "sets"], ["is", "less", "counts"], ["all", "ends", "sets"]])
        self.check(["sets", "counts", "ends", "all", "less", "is"],
                   [["sets", "ends", "all"], ["sets", "all", "less", "is"], ["counts", "less", "is"]])
        six = ["is", "less", "number", "text", "counts", "lookups"]
        self.check(six, [six])
        six = ["sets", "only", "all", "ends", "steps", "is"]
        self.check(six, [six], elder(), elder())

    def test_none_is_kept(self):
        old, new = edition_of("a,z b", {"s": ["a"]}), edition_of("b a z", {"s": ["b"]}, [7, 8, 9])
        self.check(["is", "less", "number", "text", "counts", "ends"], [], old, new)
        self.check(["sets", "all", "only", "lookups", "steps", "choices"], [], old, new)

    def test_names(self):
        old, new = edition_of("a,z b", {"s": ["a"]}), edition_of("b a z", {"s": ["b"]}, [7, 8, 9])
        self.check(["text", "less", "counts", "number"], [["text", "less"]], old, new, names=["a"])
        self.check(["text", "less", "counts", "lookups"], [["text", "less", "counts"]], old, new, names=[])
        self.check(["text", "less"], [["less"]], old, new, names=["z"])

    def test_fallbacks(self):
        self.check(["is", "less", "sets", "all"], [["sets", "all"]], fallbacks={"top": "high"})
        self.check(["is", "less", "sets", "all"], [], fallbacks={"top": "low"})
        self.check(["is", "less", "text"], [["is", "less"]], names=["low"], fallbacks={"top": "high"})

    def test_many(self):
        for seed in range(150):
            chance = random.Random(seed)
            old, new = random_editions(chance)
            kinds, names = random_kinds(chance), random_names(chance, old)
            fallbacks = chance.choice([None, {name: chance.choice(old.names) for name in new_members(old, new)}])
            with self.subTest(seed):
                told = greatest(old, new, kinds, names=names, fallbacks=fallbacks)
                self.check(kinds, told, old, new, names=names, fallbacks=fallbacks)
                for chosen in told:
                    self.assertTrue(kept(old, new, chosen, names=names, fallbacks=fallbacks))


class Fallbacks(unittest.TestCase):
    def check(self, old, new, kinds, told, names=None):
        found = safe_fallbacks(old, new, kinds, names=names)
        self.assertEqual(found, told)
        fresh = new_members(old, new)
        self.assertEqual([list(fallbacks) for fallbacks in found], [fresh] * len(told))
        trials = [dict(zip(fresh, chosen)) for chosen in product(old.names, repeat=len(fresh))]
        safe = [trial for trial in trials if kept(old, new, kinds, names=names, fallbacks=trial)]
        self.assertEqual(safe, told)

    def test_no_new_member(self):
        self.check(elder(), elder(), ["is"], [{}])
        self.check(elder(), elder(), ["is", "ends", "steps"], [{}], [])
        self.check(edition_of("a b"), edition_of("b a"), ["is"], [{}])
        self.check(edition_of("a b"), edition_of("b a"), ["less"], [])
        self.check(edition_of("a b"), edition_of("b a"), ["less"], [{}], ["a"])

    def test_one_new_member(self):
        self.check(elder(), newer(), ["is"], [])
        self.check(elder(), newer(), ["sets", "all"], [{"top": "mid"}, {"top": "high"}])
        self.check(elder(), newer(), ["sets", "is"], [{"top": "high"}], ["mid"])
        self.check(elder(), newer(), ["less"], [{"top": "mid"}, {"top": "high"}], ["low"])
        self.check(elder(), newer(), ["less", "ends"], [{"top": "high"}], [])
        self.check(elder(), newer(), ["is"], [{"top": "low"}, {"top": "mid"}, {"top": "high"}], [])

    def test_in_the_order_of_the_elder_edition(self):
        old, new = edition_of("c a b"), edition_of("n a b c")
        self.check(old, new, ["is"], [{"n": "c"}, {"n": "a"}, {"n": "b"}], [])
        self.check(old, new, ["is"], [{"n": "c"}, {"n": "b"}], ["a"])

    def test_several_new_members(self):
        old, new = edition_of("a b"), edition_of("a b m n")
        self.check(old, new, ["less"], [])
        self.check(old, new, ["less"], [], ["a"])
        self.check(old, new, ["less"], [{"m": "a", "n": "b"}], [])
        self.check(old, new, ["is"], [{"m": "a", "n": "b"}, {"m": "b", "n": "a"}], [])
        every = [{"m": one, "n": other} for one in "ab" for other in "ab"]
        self.check(old, new, ["sets", "all"], every)

    def test_in_the_order_of_the_new_members(self):
        old = edition_of("a b c", {"s": ["b", "c"]})
        new = edition_of("a n b c m", {"s": ["b", "c", "m"]})
        self.check(old, new, ["sets", "all"], [{"n": "a", "m": "b"}, {"n": "a", "m": "c"}])
        new = edition_of("n a b m c", {"s": ["b", "c", "n"]})
        self.check(old, new, ["sets", "all"], [{"n": "b", "m": "a"}, {"n": "c", "m": "a"}])

    def test_three_and_four_new_members(self):
        old = edition_of("a b c d")
        new = edition_of("m a n b,c,d o")
        self.check(old, new, ["less"], [{"m": "a", "n": "b", "o": "c"}, {"m": "a", "n": "b", "o": "d"},
                                        {"m": "a", "n": "c", "o": "d"}, {"m": "b", "n": "c", "o": "d"}], [])
        old, new = edition_of("a b", {"s": ["b"]}), edition_of("m a n b o p", {"s": ["b", "n", "p"]})
        self.check(old, new, ["sets", "all", "ends"], [{"m": "a", "n": "b", "o": "a", "p": "b"}])

    def test_none_is_safe(self):
        self.check(elder(), newer(), ["text"], [])
        self.check(elder(), newer(), ["counts"], [], [])
        self.check(elder(), newer(), ["sets", "only"], [])
        self.check(elder(), newer(), ["is", "steps"], [])

    def test_numbers(self):
        old, new = edition_of("a b"), edition_of("a n b", numbers=[1, 2, 7])
        self.check(old, new, ["number"], [{"n": "b"}], ["a"])
        self.check(old, new, ["number"], [])

    def test_an_alias_of_a_new_member(self):
        self.check(edition_of("a b"), edition_of("a b n,m"), ["is"], [{"n": "a"}, {"n": "b"}], [])

    def test_many(self):
        for seed in range(100):
            chance = random.Random(seed)
            old, new = random_editions(chance, most_new=2)
            kinds, names = random_kinds(chance), random_names(chance, old)
            with self.subTest(seed):
                self.check(old, new, kinds, safe_fallbacks(old, new, kinds, names=names), names)

    def test_somewhat_more_new_members(self):
        old, new = edition_of("a b"), edition_of("a b m n o p q r")
        self.assertEqual(len(safe_fallbacks(old, new, ["sets", "all"])), 64)
        self.assertEqual(safe_fallbacks(old, new, ["is"], names=[]), [])


class Calls(unittest.TestCase):
    def test_arguments_by_name(self):
        told = greatest(kinds=["text", "is"], newer=newer(), elder=elder(), fallbacks={"top": "high"}, names=["low"])
        self.assertEqual(told, [["is"]])
        told = safe_fallbacks(kinds=["less"], newer=newer(), elder=elder(), names=["mid"])
        self.assertEqual(told, [{"top": "high"}])

    def test_lists_and_dicts_are_new(self):
        one, other, kinds = elder(), newer(), ["sets", "all"]
        told = greatest(one, other, kinds)
        told[0].clear()
        told.clear()
        self.assertEqual(kinds, ["sets", "all"])
        self.assertEqual(greatest(one, other, kinds), [["sets", "all"]])
        told = safe_fallbacks(one, other, kinds)
        told[0].clear()
        self.assertEqual(told[1], {"top": "high"})
        told.clear()
        self.assertEqual(safe_fallbacks(one, other, kinds), [{"top": "mid"}, {"top": "high"}])
        safe_fallbacks(one, one, kinds)[0]["low"] = "mid"
        self.assertEqual(safe_fallbacks(one, one, kinds), [{}])

    def test_nothing_given_is_changed(self):
        one, other, kinds, names, fallbacks = elder(), newer(), ["is", "ends"], ["normal", "low"], {"top": "low"}
        greatest(one, other, kinds, names=names, fallbacks=fallbacks)
        safe_fallbacks(one, other, kinds, names=names)
        self.assertEqual((one, other), (elder(), newer()))
        self.assertEqual((kinds, names, fallbacks), (["is", "ends"], ["normal", "low"], {"top": "low"}))
