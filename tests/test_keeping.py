"""Whether kinds are kept: what has to hold of the reached pairs and the parts."""

import unittest

from growlists.editions import Edition
from growlists.keeping import is_evidence, kept
from growlists.pairs import reached
from tests.samples import edition_of, elder, newer, swapped


class Keeping(unittest.TestCase):
    def check(self, told, old, new, kinds, **more):
        self.assertIs(kept(old, new, kinds, **more), told)
        # What is reached is evidence exactly if the kinds are kept.
        found = reached(old, new, kinds, **more)
        if found is not None:
            self.assertIs(is_evidence(old, new, kinds, found, **more), told)


class Is(Keeping):
    def test_one_to_one(self):
        self.check(True, elder(), newer(), ["is"])
        self.check(True, edition_of("a b c"), edition_of("c b n a"), ["is"])
        self.check(True, edition_of("a b c"), edition_of("c b n a"), ["is"], names=[])

    def test_one_member_becomes_two(self):
        old, new = edition_of("a b,c"), edition_of("a b c")
        self.check(False, old, new, ["is"])
        self.check(False, old, new, ["is"], names=["c", "b"])
        self.check(True, old, new, ["is"], names=["c", "a"])

    def test_two_members_become_one(self):
        old, new = edition_of("a b c"), edition_of("a b,c")
        self.check(False, old, new, ["is"])
        self.check(True, old, new, ["is"], names=["c", "a"])

    def test_entries(self):
        self.check(False, elder(), newer(), ["is"], fallbacks={"top": "high"})
        self.check(True, elder(), newer(), ["is"], names=["low", "mid"], fallbacks={"top": "high"})
        self.check(False, elder(), newer(), ["is"], names=["low", "mid"], fallbacks={"top": "low"})


class Less(Keeping):
    def test_same_order(self):
        self.check(True, elder(), newer(), ["less"])
        self.check(True, edition_of("a b c"), edition_of("n a m b c"), ["less"])

    def test_other_order(self):
        old, new = edition_of("a b c"), edition_of("a c b")
        self.check(False, old, new, ["less"])
        self.check(False, old, new, ["less"], names=["b", "c"])
        self.check(True, old, new, ["less"], names=["a", "c"])
        self.check(True, old, new, ["is"])

    def test_one_member_becomes_two_or_two_become_one(self):
        self.check(False, edition_of("a,b"), edition_of("a b"), ["less"])
        self.check(False, edition_of("a,b"), edition_of("b a"), ["less"])
        self.check(False, edition_of("a b"), edition_of("a,b"), ["less"])
        self.check(False, edition_of("b a"), edition_of("a,b"), ["less"])


class Sets(Keeping):
    def test_members_lie_in_the_same_parts(self):
        self.check(True, elder(), newer(), ["sets", "all"])
        self.check(True, elder(), newer(), ["sets", "all"], fallbacks={"top": "mid"})

    def test_a_member_leaves_a_set(self):
        old = edition_of("a b", {"s": ["a", "b"]})
        new = edition_of("a b", {"s": ["b"]})
        self.check(False, old, new, ["sets", "is"])
        self.check(False, old, new, ["sets", "is"], names=["a"])
        self.check(True, old, new, ["sets", "is"], names=["b"])
        self.check(True, old, new, ["is"])

    def test_a_member_enters_a_set(self):
        old = edition_of("a b", {"s": ["b"]})
        new = edition_of("a b", {"s": ["b", "a"]})
        self.check(False, old, new, ["sets", "is"])
        self.check(False, old, new, ["sets", "is"], names=["a"])
        self.check(True, old, new, ["sets", "is"], names=["b"])

    def test_an_entry_outside_of_the_sets_of_its_fallback(self):
        for fallback, told in (("low", False), ("mid", True), ("high", True)):
            self.check(told, elder(), newer(), ["sets", "all"], fallbacks={"top": fallback})

    def test_a_side_is_empty(self):
        empty = edition_of("a b", {"s": []})
        full = edition_of("a b n", {"s": ["n"]})
        self.check(False, empty, full, ["sets", "is"])
        self.check(False, empty, full, ["sets", "is"], names=[])
        self.check(True, empty, full, ["is"])
        self.check(True, empty, edition_of("a b n", {"s": []}), ["sets", "is"])
        self.check(False, edition_of("a b", {"s": ["b"]}), empty, ["sets", "is"], names=[])

    def test_a_part_of_all_members_has_an_empty_side(self):
        self.check(False, edition_of("a b", {"s": ["a", "b"]}), edition_of("a b n", {"s": ["a", "b"]}), ["sets", "all"])
        self.check(True, edition_of("a b", {"s": ["a", "b"]}), edition_of("a b n", {"s": ["a", "b"]}), ["sets", "is"])
        self.check(False, elder(), newer(), ["sets", "only"])
        self.check(True, elder(), newer(), ["sets", "only"], names=["low"])


class Counts(Keeping):
    def test_places(self):
        self.check(True, elder(), newer(), ["counts"])
        self.check(False, edition_of("a b"), edition_of("n a b"), ["counts"])
        self.check(False, edition_of("a b"), edition_of("b a"), ["counts"], names=["b"])
        self.check(True, edition_of("a b"), edition_of("a n b"), ["counts"], names=["a"])

    def test_sizes(self):
        self.check(False, elder(), newer(), ["counts", "all"])
        self.check(False, elder(), newer(), ["counts", "all"], names=[])
        self.check(True, elder(), elder(), ["counts", "all"])
        self.check(False, elder(), newer(), ["counts", "sets"])
        old = edition_of("a b c", {"s": ["a", "b"], "t": ["b", "c"]})
        new = edition_of("a b c n", {"s": ["b", "a"], "t": ["b", "c"]})
        self.check(True, old, new, ["counts", "sets"])
        self.check(False, old, new, ["counts", "sets", "all"])

    def test_sizes_of_parts(self):
        # s and t keep their sizes, what they share does not.
        old = edition_of("a b c d", {"s": ["a", "b"], "t": ["b", "c"]})
        new = edition_of("a b c d", {"s": ["a", "b"], "t": ["c", "d"]})
        self.check(False, old, new, ["counts", "sets"], names=[])

    def test_places_and_sizes_only_with_counts(self):
        self.check(True, edition_of("a b"), edition_of("n a m b"), ["is", "less", "text", "all"])


class NumberAndText(Keeping):
    def test_numbers(self):
        self.check(True, elder(), newer(), ["number"])
        old, new = edition_of("a b"), edition_of("a b", numbers=[1, 7])
        self.check(False, old, new, ["number"])
        self.check(False, old, new, ["number"], names=["b"])
        self.check(True, old, new, ["number"], names=["a"])
        self.check(True, old, new, ["is", "less", "text", "counts", "all", "sets"])

    def test_numbers_of_other_members(self):
        old, new = edition_of("a b"), edition_of("a n b", numbers=[3, 2, 1])
        self.check(False, old, new, ["number"])
        self.check(True, old, new, ["number"], names=[], fallbacks={"n": "b"})
        self.check(False, old, new, ["number"], names=[], fallbacks={"n": "a"})

    def test_texts(self):
        self.check(True, elder(), newer(), ["text"])
        old, new = edition_of("a,z b"), edition_of("z,a b")
        self.check(False, old, new, ["text"])
        self.check(False, old, new, ["text"], names=["z"])
        self.check(True, old, new, ["text"], names=["b"])
        self.check(True, old, new, ["is", "less", "counts", "number", "all", "sets"])

    def test_aliases_do_not_matter(self):
        self.check(True, edition_of("a,z b"), edition_of("a,z,y b,x"), ["text"])

    def test_ends(self):
        self.check(False, elder(), newer(), ["number", "ends"])
        self.check(False, elder(), newer(), ["text", "ends"], names=[])
        self.check(True, edition_of("a b"), edition_of("a n b"), ["text", "ends"])


class Alone(Keeping):
    def test_one_side_fails_alone(self):
        self.check(False, elder(), newer(), ["is", "steps"])
        self.check(True, elder(), newer(), ["is", "steps"], names=[])
        new = edition_of("a b", numbers=[1, 7])
        self.check(False, edition_of("a b"), new, ["is", "lookups"], names=[])
        self.check(True, edition_of("a b"), edition_of("a b n"), ["is", "lookups"])

    def test_a_set_is_empty_on_one_side(self):
        full, empty = edition_of("a b", {"s": ["a"]}), edition_of("a b", {"s": []})
        self.check(False, full, empty, ["text", "sets", "ends"], names=[])
        self.check(False, empty, full, ["text", "sets", "ends"], names=[])
        self.check(True, empty, full, ["text", "ends"])

    def test_choices_change_nothing(self):
        self.check(True, elder(), newer(), ["choices", "is"])
        self.check(False, elder(), newer(), ["choices", "is", "ends"])
        self.check(False, elder(), newer(), ["choices", "is", "steps"])


class Together(Keeping):
    def test_each_kind_has_to_hold(self):
        good = edition_of("a b,c d", {"s": ["b", "d"]})
        six = ["is", "less", "counts", "number", "text", "sets"]
        self.check(True, good, edition_of("a b,c d n", {"s": ["b", "d"]}), six)
        for kind, new in (
            ("is", edition_of("a c b d", {"s": ["c", "b", "d"]})),
            ("less", edition_of("b,c a d", {"s": ["b", "d"]})),
            ("counts", edition_of("n a b,c d", {"s": ["b", "d"]})),
            ("number", edition_of("a b,c d", {"s": ["b", "d"]}, [1, 4, 5])),
            ("text", edition_of("a c,b d", {"s": ["c", "d"]})),
            ("sets", edition_of("a b,c d", {"s": ["b", "a"]})),
        ):
            with self.subTest(kind):
                self.check(False, good, new, six)
                self.check(False, good, new, [kind, "all"])

    def test_ends_of_unions(self):
        self.check(True, *swapped(), ["is", "sets"])
        self.check(False, *swapped(), ["is", "sets", "ends"], names=[])
        self.check(True, *swapped(), ["is", "ends"], names=[])
        self.check(False, *swapped(), ["text", "sets", "ends"], names=[])

    def test_the_same_edition(self):
        one = edition_of("a,z b c,y d", {"s": ["a", "c"], "t": []})
        for kinds in (["is", "less", "counts", "number", "text", "ends"], ["sets", "only", "all", "steps", "lookups"]):
            self.check(True, one, one, kinds)
            self.check(True, one, one, kinds, fallbacks={}, names=["y"])

    def test_arguments_by_name(self):
        told = kept(kinds=["is"], newer=newer(), elder=elder(), fallbacks={"top": "high"}, names=["low"])
        self.assertIs(told, True)

    def test_nothing_given_is_changed(self):
        one, other, kinds, names, fallbacks = elder(), newer(), ["is", "ends"], ["normal", "low"], {"top": "low"}
        kept(one, other, kinds, names=names, fallbacks=fallbacks)
        self.assertEqual((one, other), (elder(), newer()))
        self.assertEqual((kinds, names, fallbacks), (["is", "ends"], ["normal", "low"], {"top": "low"}))

    def test_somewhat_larger_editions(self):
        old, new = edition_of("a b c d e f"), edition_of("a b c d e f g h i")
        self.check(True, old, new, ["is", "less", "all"])
        self.check(False, old, new, ["is", "less", "all", "counts"])
        rows = [(name, (), number) for number, name in enumerate("abcdefghijklmnop")]
        self.check(True, Edition(rows[:15]), Edition(rows), ["is", "less", "counts", "number", "text", "lookups"])
