"""Shortest callers that answer otherwise."""

import unittest

from growlists.callers import answer, is_caller, is_written_for, kinds_of, size_of
from growlists.keeping import kept
from growlists.shortest import shortest
from tests.samples import edition_of, elder, newer


def deeds_of(caller):
    """The deeds of a caller, itself among them."""
    found = [caller]
    for part in caller[1:]:
        if isinstance(part, tuple):
            found.extend(deeds_of(part))
    return found


class Shortest(unittest.TestCase):
    def check(self, size, old, new, kinds, *, names=None, fallbacks=None):
        """Whether the least size is this one, told by every bound from 2 to 9 that lets it."""
        for most in range(2, 10):
            found = shortest(old, new, kinds, most=most, names=names, fallbacks=fallbacks)
            if size is None or most < size:
                self.assertIsNone(found)
            else:
                self.check_caller(found, size, old, new, kinds, names, fallbacks)
        found = shortest(old, new, kinds, names=names, fallbacks=fallbacks)
        self.assertEqual(found is None, size is None or size > 6)
        return shortest(old, new, kinds, most=8, names=names, fallbacks=fallbacks)

    def check_caller(self, found, size, old, new, kinds, names, fallbacks):
        self.assertTrue(is_caller(found), found)
        self.assertEqual(size_of(found), size)
        self.assertLessEqual(set(kinds_of(found)), set(kinds))
        self.assertTrue(is_written_for(found, old))
        for deed in deeds_of(found):
            if deed[0] == "name":
                self.assertTrue(names is None or deed[1] in names, found)
            elif deed[0] == "entry":
                self.assertIn(deed[1], fallbacks)
        self.assertNotEqual(answer(found, old, fallbacks=fallbacks), answer(found, new, fallbacks=fallbacks))


class Truths(Shortest):
    def test_is(self):
        self.check(3, elder(), newer(), ["is", "ends"])
        found = self.check(3, edition_of("a b,c"), edition_of("a b c"), ["is"])
        self.assertEqual((found[0], {found[1], found[2]}), ("is", {("name", "b"), ("name", "c")}))
        self.check(3, elder(), newer(), ["is"], fallbacks={"top": "high"})

    def test_less(self):
        found = self.check(3, edition_of("a b c"), edition_of("a c b"), ["less"])
        self.assertEqual((found[0], {found[1], found[2]}), ("less", {("name", "b"), ("name", "c")}))
        self.check(3, elder(), newer(), ["less"], names=["high"], fallbacks={"top": "high"})

    def test_in(self):
        old, new = edition_of("a b", {"s": ["a", "b"]}), edition_of("a b", {"s": ["b"]})
        found = self.check(3, old, new, ["sets", "text"])
        self.assertEqual(found, ("in", ("name", "a"), ("set", "s")))
        found = self.check(3, elder(), newer(), ["sets", "all"], fallbacks={"top": "low"})
        self.assertEqual(found, ("in", ("entry", "top"), ("set", "busy")))

    def test_empty(self):
        old, new = edition_of("a b", {"s": [], "t": []}), edition_of("a b n", {"s": ["n"], "t": []})
        self.assertEqual(self.check(2, old, new, ["sets", "text"]), ("empty", ("set", "s")))
        self.assertEqual(self.check(2, new, edition_of("a b n", {"s": [], "t": []}), ["sets", "is"], names=[]),
                         ("empty", ("set", "s")))


class NumbersAndTexts(Shortest):
    def test_size(self):
        self.assertEqual(self.check(2, elder(), newer(), ["all", "counts"]), ("size", ("all",)))
        self.assertEqual(self.check(2, elder(), newer(), ["sets", "counts"]), ("size", ("set", "busy")))

    def test_place(self):
        found = self.check(2, edition_of("a b"), edition_of("a n b"), ["counts"])
        self.assertEqual(found, ("place", ("name", "b")))
        found = self.check(2, elder(), newer(), ["counts"], names=[], fallbacks={"top": "high"})
        self.assertEqual(found, ("place", ("entry", "top")))

    def test_number(self):
        found = self.check(2, edition_of("a b"), edition_of("a b", numbers=[1, 7]), ["number"])
        self.assertEqual(found, ("number", ("name", "b")))
        self.assertEqual(self.check(2, elder(), newer(), ["number", "ends"]), ("number", ("last",)))

    def test_text(self):
        found = self.check(2, edition_of("a,z b"), edition_of("z,a b"), ["text"])
        self.assertIn(found, [("text", ("name", "a")), ("text", ("name", "z"))])
        self.assertEqual(self.check(2, elder(), newer(), ["text", "ends"], names=[]), ("text", ("last",)))
        self.assertEqual(self.check(2, edition_of("b a"), edition_of("n b a"), ["text", "ends"]), ("text", ("first",)))

    def test_lookups(self):
        old, new = edition_of("a b c"), edition_of("a b c", numbers=[1, 3, 2])
        found = self.check(2, old, new, ["text", "lookups"])
        self.assertIn(found, [("text", ("numbered", 2)), ("text", ("numbered", 3))])
        self.check(3, old, new, ["is", "lookups"])
        self.assertEqual(self.check(2, old, edition_of("a b c", numbers=[1, 2, 7]), ["text", "lookups"], names=[]),
                         ("text", ("numbered", 3)))

    def test_failures(self):
        old, new = edition_of("a b"), edition_of("a b n")
        found = self.check(3, old, new, ["text", "steps"])
        self.assertEqual(found, ("text", ("next", ("name", "b"))))
        self.assertEqual(answer(found, old), ("fails",))
        self.check(4, old, new, ["is", "steps"])
        self.check(4, old, new, ["sets", "all", "steps"])
        self.check(4, old, new, ["sets", "only", "steps"])
        found = self.check(3, edition_of("a b"), edition_of("n a b", numbers=[7, 1, 2]), ["number", "steps"])
        self.assertEqual(found, ("number", ("previous", ("name", "a"))))


class Sizes(Shortest):
    def test_steps(self):
        for many in range(1, 5):
            words = "a b c d".split()[:many]
            old, new = edition_of(" ".join(words)), edition_of(" ".join([*words, "n"]))
            self.check(many + 2, old, new, ["text", "steps"], names=["a"])
            self.check(many + 3, old, new, ["is", "steps"], names=["a"])
            self.check(2, old, new, ["text", "steps", "ends"], names=["a"])

    def test_members_outside_of_all_sets(self):
        for many, size in ((1, 4), (2, 6), (3, 8)):
            names = "a b c".split()[:many]
            sets = {name: [name] for name in names}
            old, new = edition_of(" ".join(names), sets), edition_of(" ".join([*names, "n"]), sets)
            self.check(size, old, new, ["sets", "all"])
            self.check(size, old, new, ["all", "is", "less", "sets", "choices"])

    def test_ends_of_sets(self):
        sets = {"s": ["a", "b", "c"], "t": ["a"]}
        old, new = edition_of("p a b c q", sets), edition_of("p a c b q", sets)
        self.check(3, old, new, ["text", "sets", "ends"])
        self.check(None, old, new, ["counts", "sets", "ends"], names=[])
        sets = {"s": ["a", "b", "c"], "t": ["a", "c"], "u": ["b"]}
        old, new = edition_of("p a b c q", sets), edition_of("p b a c q", sets)
        self.assertEqual(self.check(3, old, new, ["text", "sets", "ends"], names=[]), ("text", ("first", ("set", "s"))))

    def test_ends_of_unions(self):
        sets = {"s": ["a"], "t": ["b"]}
        old, new = edition_of("p a b q", sets), edition_of("p b a q", sets)
        self.check(5, old, new, ["text", "sets", "ends"], names=[])
        self.check(3, old, new, ["less", "sets"])
        self.check(6, old, new, ["is", "sets", "ends"], names=["a"])

    def test_sets_of_one_member(self):
        old = edition_of("a b", {"s": ["a", "b"]})
        new = edition_of("a b n", {"s": ["a", "b", "n"]})
        self.check(8, old, new, ["sets", "only"])
        self.check(5, edition_of("a", {"s": ["a"]}), edition_of("a n", {"s": ["a", "n"]}), ["sets", "only"])
        self.check(2, old, new, ["sets", "only", "counts"])

    def test_nothing_to_tell(self):
        self.check(None, elder(), newer(), ["less"])
        self.check(None, elder(), elder(), ["is", "less", "counts", "text", "ends", "steps"])
        self.check(None, elder(), newer(), ["is", "steps"], names=[])
        self.check(None, elder(), newer(), ["sets", "all", "choices"])

    def test_choices_among_the_kinds(self):
        self.check(3, elder(), newer(), ["is", "ends", "choices"])
        self.check(4, elder(), newer(), ["choices", "is", "steps"])
        self.check(2, elder(), newer(), ["choices", "all", "counts"])

    def test_more_than_most(self):
        old = edition_of("a b c", {"a": ["a"], "b": ["b"], "c": ["c"]})
        new = edition_of("a b c n", {"a": ["a"], "b": ["b"], "c": ["c"]})
        self.assertFalse(kept(old, new, ["sets", "all"]))
        self.assertIsNone(shortest(old, new, ["sets", "all"]))
        self.assertIsNone(shortest(old, new, ["sets", "all"], most=7))
        self.assertEqual(size_of(shortest(old, new, ["sets", "all"], most=8)), 8)
        self.assertIsNone(shortest(elder(), newer(), ["is", "ends"], most=2))


class Calls(unittest.TestCase):
    def test_arguments_by_name(self):
        found = shortest(kinds=["text"], newer=newer(), elder=elder(), fallbacks={"top": "high"}, names=[], most=2)
        self.assertEqual(found, ("text", ("entry", "top")))

    def test_nothing_given_is_changed(self):
        one, other, kinds, names, fallbacks = elder(), newer(), ["is", "ends"], ["normal", "low"], {"top": "low"}
        shortest(one, other, kinds, names=names, fallbacks=fallbacks)
        self.assertEqual((one, other), (elder(), newer()))
        self.assertEqual((kinds, names, fallbacks), (["is", "ends"], ["normal", "low"], {"top": "low"}))
