"""The reached pairs of members, and the parts."""

import unittest

from growlists.editions import Edition
from growlists.pairs import reached
from tests.samples import edition_of, elder, newer, swapped

SAME = [("low", "low"), ("mid", "mid"), ("high", "high")]
ONES = [(("low",), ("low",)), (("mid",), ("mid",)), (("high",), ("high",))]
WHOLE = (("low", "mid", "high"), ("low", "mid", "high", "top"))
BUSY = (("mid", "high"), ("mid", "high", "top"))


class Kinds(unittest.TestCase):
    def check(self, kinds, pairs, parts):
        self.assertEqual(reached(elder(), newer(), kinds), (pairs, parts))

    def test_kinds_alone(self):
        for kind in ("is", "less", "counts", "number", "text"):
            with self.subTest(kind):
                self.check([kind], SAME, [])

    def test_sets_with_all_or_only(self):
        self.check(["sets", "all"], SAME, [(("low",), ("low",)), BUSY])
        self.check(["all", "sets"], SAME, [(("low",), ("low",)), BUSY])
        self.check(["sets", "only"], SAME, [((), ("top",)), *ONES])
        self.check(["only", "all", "sets"], SAME, [((), ("top",)), *ONES])

    def test_several_kinds(self):
        self.check(["is", "less", "counts", "number", "text"], SAME, [])
        self.check(["text", "all", "counts"], SAME, [WHOLE])
        self.check(["is", "sets"], SAME, [BUSY])
        self.check(["is", "less", "text", "sets", "only", "all"], SAME, [((), ("top",)), *ONES])

    def test_choices_reach_nothing_more(self):
        self.check(["is", "choices"], SAME, [])
        self.check(["choices", "sets", "all"], SAME, [(("low",), ("low",)), BUSY])
        self.check(["is", "choices", "ends"], [*SAME, ("high", "top")], [])

    def test_named_sets_only_with_sets(self):
        self.check(["less", "all", "ends"], [*SAME, ("high", "top")], [WHOLE])
        self.check(["less", "ends"], [*SAME, ("high", "top")], [])

    def test_sets_without_any_set(self):
        rows = [("a", (), 1), ("b", (), 2)]
        found = reached(Edition(rows), Edition(rows, {"s": ["a"]}), ["is", "sets", "ends"])
        self.assertEqual(found, ([("a", "a"), ("b", "b")], []))

    def test_no_new_member(self):
        found = reached(elder(), elder(), ["is", "ends", "steps", "lookups", "sets", "only"])
        self.assertEqual(found, (SAME, ONES))

    def test_one_member(self):
        one = Edition([("a", (), 1)], {"s": []})
        for kinds in (["is", "ends", "steps"], ["text", "lookups"], ["sets", "only", "ends"]):
            parts = [(("a",), ("a",))] if "only" in kinds else []
            self.assertEqual(reached(one, one, kinds), ([("a", "a")], parts))


class Written(unittest.TestCase):
    def check(self, names, pairs, kinds=("is",), later=None):
        later = newer() if later is None else later
        self.assertEqual(reached(elder(), later, list(kinds), names=names), (pairs, []))

    def test_names(self):
        self.check(None, SAME)
        self.check(["high", "low"], [("low", "low"), ("high", "high")])
        self.check(["normal"], [("mid", "mid")])
        self.check(["normal", "mid"], [("mid", "mid")])
        self.check([], [])

    def test_aliases_that_lead_elsewhere(self):
        later = edition_of("low mid high,normal")
        later = Edition([(name, later[name].aliases, later[name].number) for name in later.names], {"busy": []})
        self.check(None, [("low", "low"), ("mid", "mid"), ("mid", "high"), ("high", "high")], later=later)
        self.check(["normal", "low"], [("low", "low"), ("mid", "high")], later=later)
        self.check(["mid", "high"], [("mid", "mid"), ("high", "high")], later=later)

    def test_names_that_lead_to_one_member(self):
        found = reached(edition_of("a b c"), edition_of("x b,a c"), ["is"])
        self.assertEqual(found, ([("a", "b"), ("b", "b"), ("c", "c")], []))

    def test_names_are_told_not_aliases(self):
        found = reached(edition_of("a,z b"), edition_of("z,a y,b"), ["is", "all"])
        self.assertEqual(found, ([("a", "z"), ("b", "y")], [(("a", "b"), ("z", "y"))]))

    def test_entries(self):
        for fallback, pairs in (
            ("low", [("low", "low"), ("low", "top"), ("mid", "mid"), ("high", "high")]),
            ("mid", [("low", "low"), ("mid", "mid"), ("mid", "top"), ("high", "high")]),
            ("high", [*SAME, ("high", "top")]),
        ):
            self.assertEqual(reached(elder(), newer(), ["is"], fallbacks={"top": fallback}), (pairs, []))

    def test_entries_without_names(self):
        found = reached(elder(), newer(), ["is"], names=[], fallbacks={"top": "mid"})
        self.assertEqual(found, ([("mid", "top")], []))

    def test_entries_of_several_members(self):
        later = edition_of("m a b n,o")
        found = reached(edition_of("a b"), later, ["less"], names=["b"], fallbacks={"n": "a", "m": "b"})
        self.assertEqual(found, ([("a", "n"), ("b", "m"), ("b", "b")], []))

    def test_no_entries(self):
        self.assertEqual(reached(elder(), elder(), ["is"], fallbacks={}), (SAME, []))
        self.assertEqual(reached(elder(), elder(), ["is"], names=[], fallbacks={}), ([], []))

    def test_entries_are_in_sets_and_take_steps(self):
        found = reached(elder(), newer(), ["sets", "only"], names=["mid"], fallbacks={"top": "low"})
        parts = [((), ("top",)), (("low",), ()), (("mid",), ("mid",)), (("high",), ("high",))]
        self.assertEqual(found, ([("low", "top"), ("mid", "mid")], parts))
        found = reached(edition_of("a b"), edition_of("b,a c"), ["is", "steps"], names=[], fallbacks={"c": "b"})
        self.assertEqual(found, ([("a", "b"), ("b", "c")], []))


class Led(unittest.TestCase):
    def test_ends(self):
        for names, pairs in (
            (None, [*SAME, ("high", "top")]),
            (["mid"], [("low", "low"), ("mid", "mid"), ("high", "top")]),
            ([], [("low", "low"), ("high", "top")]),
        ):
            self.assertEqual(reached(elder(), newer(), ["is", "ends"], names=names), (pairs, []))
        found = reached(edition_of("a b"), edition_of("n a b m"), ["is", "ends"])
        self.assertEqual(found, ([("a", "n"), ("a", "a"), ("b", "b"), ("b", "m")], []))

    def test_ends_of_named_sets(self):
        found = reached(elder(), newer(), ["is", "sets", "ends"], names=[])
        self.assertEqual(found, ([("low", "low"), ("mid", "mid"), ("high", "top")], [BUSY]))

    def test_ends_of_all(self):
        found = reached(elder(), newer(), ["is", "all", "ends"], names=[])
        self.assertEqual(found, ([("low", "low"), ("high", "top")], [WHOLE]))

    def test_ends_of_differences(self):
        sets = {"s": ["b", "c", "d"], "t": ["b", "d"]}
        edition = edition_of("a b c d", sets)
        found = reached(edition, edition, ["is", "sets", "ends"], names=[])
        same = [(name, name) for name in "abcd"]
        self.assertEqual(found, (same, [(("b", "d"), ("b", "d")), (("c",), ("c",))]))

    def test_ends_of_unions(self):
        found = reached(*swapped(), ["is", "sets", "ends"], names=[])
        self.assertEqual(found, (
            [("p", "p"), ("a", "b"), ("a", "a"), ("b", "b"), ("b", "a"), ("q", "q")],
            [(("a",), ("a",)), (("b",), ("b",))],
        ))

    def test_ends_of_sets_that_ends_make(self):
        edition = edition_of("a b c d e", {"s": ["a", "b", "c", "d", "e"]})
        found = reached(edition, edition, ["sets", "only", "ends"], names=[])
        self.assertEqual(found, ([(name, name) for name in "abcde"], [((name,), (name,)) for name in "abcde"]))

    def test_ends_of_sets_that_are_empty_on_both_sides(self):
        found = reached(edition_of("a b", {"s": []}), edition_of("a b c", {"s": []}), ["is", "sets", "ends"], names=[])
        self.assertEqual(found, ([("a", "a"), ("b", "c")], []))

    def test_steps(self):
        for word in ("low", "mid", "high", "normal"):
            self.assertEqual(reached(elder(), elder(), ["is", "steps"], names=[word]), (SAME, []))
        self.assertEqual(reached(elder(), elder(), ["is", "steps"], names=[]), ([], []))
        self.assertEqual(reached(elder(), newer(), ["is", "steps"], names=[]), ([], []))

    def test_steps_to_other_names(self):
        found = reached(edition_of("a b c"), edition_of("n b m,a,c"), ["is", "steps"], names=["b"])
        self.assertEqual(found, ([("a", "n"), ("b", "b"), ("c", "m")], []))

    def test_steps_from_ends(self):
        found = reached(elder(), elder(), ["is", "steps", "ends"], names=[])
        self.assertEqual(found, (SAME, []))

    def test_lookups(self):
        later = edition_of("a b c n", numbers=[1, 3, 2, 7])
        found = reached(edition_of("a b c"), later, ["is", "lookups"], names=[])
        self.assertEqual(found, ([("a", "a"), ("b", "c"), ("c", "b")], []))
        found = reached(edition_of("a b c"), later, ["is", "lookups"])
        self.assertEqual(found, ([("a", "a"), ("b", "b"), ("b", "c"), ("c", "b"), ("c", "c")], []))

    def test_lookups_of_new_members(self):
        found = reached(edition_of("a b"), edition_of("a b n", numbers=[1, 5, 2]), ["is", "lookups"], names=["b"])
        self.assertEqual(found, ([("a", "a"), ("b", "b"), ("b", "n")], []))

    def test_nothing_is_led_to_without_its_kind(self):
        later = edition_of("n a b m", numbers=[7, 8, 9, 10])
        found = reached(edition_of("a b"), later, ["is", "less", "counts", "number", "text", "choices"], names=["b"])
        self.assertEqual(found, ([("b", "b")], []))


class Parts(unittest.TestCase):
    def check(self, old, new, parts, kinds=("is", "sets"), names=None):
        self.assertEqual(reached(old, new, list(kinds), names=names)[1], parts)

    def test_overlapping_sets(self):
        old = edition_of("a b c d", {"s": ["a", "b"], "t": ["b", "c"]})
        new = edition_of("d c n b m a", {"s": ["a", "b", "n"], "t": ["b", "c", "m"]})
        parts = [(("a",), ("n", "a")), (("b",), ("b",)), (("c",), ("c", "m"))]
        self.check(old, new, parts)
        self.check(old, new, [*parts, (("d",), ("d",))], ["sets", "all"])
        self.check(old, new, [((), ("n",)), ((), ("m",)), *[((name,), (name,)) for name in "abc"]],
                   ["sets", "only"], ["a", "b", "c"])

    def test_sides_that_are_empty(self):
        old = edition_of("a b c", {"s": [], "t": ["a", "c"], "u": ["b"]})
        new = edition_of("m a b c n", {"s": ["n"], "t": ["c", "a"], "u": []})
        self.check(old, new, [((), ("n",)), (("a", "c"), ("a", "c")), (("b",), ())])

    def test_sequence(self):
        old = edition_of("a b c d", {"s": [], "t": ["a", "c"], "u": ["b"]})
        new = edition_of("d c b a n m", {"s": ["m"], "t": ["b"], "u": ["d", "c"]})
        self.check(old, new, [((), ("m",)), (("a", "c"), ("b",)), (("b",), ("d", "c"))])
        old = edition_of("a b", {"s": [], "t": [], "u": ["b"]})
        new = edition_of("a b m n", {"s": ["n"], "t": ["m"], "u": ["a"]})
        self.check(old, new, [((), ("m",)), ((), ("n",)), (("b",), ("a",))])
        self.check(old, new, [((), ("m",)), ((), ("n",)), (("a",), ("b",)), (("b",), ("a",))], ["sets", "all"], [])

    def test_order_of_the_editions(self):
        old = edition_of("b a", {"s": ["a", "b"]})
        new = edition_of("c a b", {"s": ["b", "a", "c"]})
        self.check(old, new, [(("b", "a"), ("c", "a", "b"))])

    def test_newer_sets_that_the_elder_edition_lacks(self):
        self.check(edition_of("a b", {"s": ["a"]}), edition_of("a b", {"s": ["a"], "t": ["b"]}), [(("a",), ("a",))])

    def test_sets_of_pairs_with_one_newer_member(self):
        old = edition_of("a b", {"s": ["a", "b"]})
        new = edition_of("b,a c", {"s": ["b", "c"]})
        self.check(old, new, [((), ("b",)), ((), ("c",)), (("a",), ()), (("b",), ())], ["sets", "only"])
        self.check(old, new, [(("a",), ("b",)), (("b",), ("c",))], ["sets", "only"], ["a"])


class Alone(unittest.TestCase):
    def check(self, old, new, kinds, **more):
        self.assertIsNone(reached(old, new, kinds, **more))

    def test_next(self):
        self.check(elder(), newer(), ["is", "steps"])
        self.check(elder(), newer(), ["is", "steps"], names=["low"])
        self.check(edition_of("a b c"), edition_of("c,a b"), ["text", "steps"], names=["a", "b"])

    def test_previous(self):
        self.check(edition_of("a b"), edition_of("n a b"), ["is", "steps"], names=["b"])
        self.check(edition_of("a b"), edition_of("b c,a"), ["counts", "steps"], names=["b"])

    def test_steps_from_ends(self):
        self.check(elder(), newer(), ["is", "steps", "ends"], names=[])

    def test_steps_from_entries(self):
        self.check(elder(), newer(), ["is", "steps"], names=[], fallbacks={"top": "mid"})

    def test_lookups(self):
        later = edition_of("a b c n", numbers=[1, 2, 7, 8])
        self.check(edition_of("a b c"), later, ["is", "lookups"])
        self.check(edition_of("a b c"), later, ["sets", "all", "lookups"], names=[])

    def test_ends_of_sets(self):
        full = edition_of("a b", {"s": ["a"]})
        empty = edition_of("a b c", {"s": []})
        self.check(full, empty, ["is", "sets", "ends"], names=[])
        full = edition_of("a b c", {"s": ["c"]})
        empty = edition_of("a b", {"s": []})
        self.check(empty, full, ["sets", "all", "ends"], names=[])

    def test_ends_of_made_sets(self):
        old = edition_of("a b c", {"s": ["a", "b"], "t": ["b", "c"]})
        new = edition_of("a b c", {"s": ["a"], "t": ["b", "c"]})
        self.check(old, new, ["is", "sets", "ends"], names=[])
        self.check(new, old, ["is", "sets", "ends"], names=[])
        self.check(elder(), newer(), ["sets", "only", "ends"])

    def test_sides_that_do_not_fail(self):
        full = edition_of("a b", {"s": ["a"]})
        empty = edition_of("a b c", {"s": []})
        same = [("a", "a"), ("b", "b")]
        self.assertEqual(reached(full, empty, ["is", "sets"]), (same, [(("a",), ())]))
        self.assertEqual(reached(full, empty, ["is", "ends"]), ([*same, ("b", "c")], []))
        self.assertEqual(reached(full, empty, ["is", "lookups"]), (same, []))


class Calls(unittest.TestCase):
    def test_arguments_by_name(self):
        found = reached(kinds=["is"], newer=newer(), elder=elder(), fallbacks={"top": "low"}, names=["high"])
        self.assertEqual(found, ([("low", "top"), ("high", "high")], []))

    def test_lists_are_new(self):
        one, other = elder(), newer()
        first = reached(one, other, ["sets", "all"])
        first[0].clear()
        first[1].clear()
        self.assertEqual(reached(one, other, ["sets", "all"]), (SAME, [(("low",), ("low",)), BUSY]))

    def test_nothing_given_is_changed(self):
        one, other, kinds, names, fallbacks = elder(), newer(), ["is", "ends"], ["normal", "low"], {"top": "low"}
        reached(one, other, kinds, names=names, fallbacks=fallbacks)
        self.assertEqual((one, other), (elder(), newer()))
        self.assertEqual((kinds, names, fallbacks), (["is", "ends"], ["normal", "low"], {"top": "low"}))

    def test_somewhat_larger_editions(self):
        old = edition_of("a b c d e f", {"s": ["a", "c", "e"]})
        new = edition_of("a b c d e f g h i", {"s": ["a", "c", "e", "i"]})
        pairs, parts = reached(old, new, ["is", "sets", "ends", "all"], fallbacks={"g": "a", "h": "b", "i": "c"})
        self.assertEqual(parts, [(("a", "c", "e"), ("a", "c", "e", "i")), (("b", "d", "f"), tuple("bdfgh"))])
        same = [(name, name) for name in "abcdef"]
        self.assertEqual(pairs, sorted([*same, ("a", "g"), ("b", "h"), ("c", "i"), ("e", "i"), ("f", "i"), ("f", "h")]))
