"""The errors that reached, kept, is_evidence, shortest, greatest and safe_fallbacks raise."""

import copy
import unittest

from growlists.errors import BadFallbacks, BadKinds, BadNames, NotNewer
from growlists.keeping import is_evidence, kept
from growlists.pairs import reached
from growlists.safety import greatest, safe_fallbacks
from growlists.shortest import shortest
from tests.oracle import KINDS
from tests.samples import edition_of, elder, newer, other_values, twice_over


def evidence(one, other, kinds, **more):
    return is_evidence(one, other, kinds, ([], []), **more)


def no_evidence(one, other, kinds, **more):
    return is_evidence(one, other, kinds, twice_over(("all",)), **more)


def longest(one, other, kinds, **more):
    return shortest(one, other, kinds, most=8, **more)


WITH_FALLBACKS = (reached, kept, evidence, no_evidence, shortest, longest, greatest)
EVERY = (*WITH_FALLBACKS, safe_fallbacks)


class Raised(unittest.TestCase):
    def check(self, error, worth, do, one, other, kinds, **more):
        """Whether this error is raised, keeps the value itself, and nothing that is given is changed."""
        held = (elder_copy(one), elder_copy(other), copy.copy(kinds), {key: copy.copy(more[key]) for key in more})
        with self.assertRaises(error) as caught:
            do(one, other, kinds, **more)
        self.assertTrue(type(caught.exception) is error)
        kept_value = caught.exception.name if error is NotNewer else caught.exception.value
        self.assertTrue(kept_value is worth or (error is NotNewer and kept_value == worth))
        self.assertTrue(held == (one, other, kinds, more))


def elder_copy(edition):
    return type(edition)(
        [(name, edition[name].aliases, edition[name].number) for name in edition.names],
        {name: edition.group(name).names for name in edition.sets},
    )


class NotNewerEditions(Raised):
    def test_the_first_name_that_is_lacking(self):
        cases = [
            (newer(), elder(), "top"),
            (edition_of("a,z,y b", {"t": [], "s": []}), edition_of("b x"), "a"),
            (edition_of("a,z,y b", {"t": [], "s": []}), edition_of("a,b,z"), "y"),
            (edition_of("a,z,y b", {"t": [], "s": []}), edition_of("a,y,b"), "z"),
            (edition_of("a,z,y b", {"t": [], "s": []}), edition_of("a,y,z"), "b"),
            (edition_of("a,z,y b", {"t": [], "s": []}), edition_of("a,y,z b"), "s"),
            (edition_of("a,z,y b", {"t": [], "s": []}), edition_of("a,y,z b", {"s": ["a"]}), "t"),
        ]
        for do in EVERY:
            for one, other, name in cases:
                self.check(NotNewer, name, do, one, other, ["is"])
                self.check(NotNewer, name, do, one, other, ["sets", "all"], names=["b"])

    def test_before_the_other_errors(self):
        for do in EVERY:
            for kinds in other_values():
                self.check(NotNewer, "top", do, newer(), elder(), kinds)
            self.check(NotNewer, "top", do, newer(), elder(), ["is"], names=0)
        for do in WITH_FALLBACKS:
            self.check(NotNewer, "top", do, newer(), elder(), ["is"], fallbacks=0)
            self.check(NotNewer, "top", do, newer(), elder(), [], names=0, fallbacks=0)


class Kinds(Raised):
    def bad_kinds(self):
        return [
            *other_values(),
            ("is",), ("sets", "all"), {"is": True}, "is", [("is",)], [["is"]], ["is", None], ["is", True], ["is", 0],
            ["is", "is"], ["less", "is", "less"], ["is", "Is"], ["is", ""], ["is", "name"], ["is", "entry"],
            ["is", "set"], ["is", "first"], ["is", "numbers"], ["is", "names"], ["is", "step"], ["is "],
            ["is", ["less"]], ["is", {}], ["is", elder()], ["is", elder()["low"]], [twice_over(("all",))],
            ["is", twice_over(("is",))],
            ["sets"], ["only"], ["all"], ["ends"], ["steps"], ["lookups"], ["choices"],
            ["all", "ends", "steps", "lookups", "choices"], ["sets", "ends", "steps", "lookups", "choices"],
            ["is", "only"], ["only", "all"], ["only", "all", "is", "less", "counts", "text"],
            ["is", "less", "counts", "number", "text", "sets", "all"],
            ["sets", "all", "only", "ends", "steps", "lookups", "choices"], list(KINDS),
        ]

    def test_no_list_of_kinds(self):
        for do in EVERY:
            for kinds in self.bad_kinds():
                self.check(BadKinds, kinds, do, elder(), newer(), kinds)

    def test_before_the_other_errors(self):
        for do in EVERY:
            for kinds in self.bad_kinds()[::5]:
                self.check(BadKinds, kinds, do, elder(), newer(), kinds, names=0)
        for do in WITH_FALLBACKS:
            for kinds in self.bad_kinds()[::5]:
                self.check(BadKinds, kinds, do, elder(), newer(), kinds, fallbacks=0)
                self.check(BadKinds, kinds, do, elder(), newer(), kinds, fallbacks=0, names=0)

    def test_lists_of_kinds(self):
        for kinds in (
            ["is"], ["less"], ["counts"], ["number"], ["text"], ["sets", "all"], ["only", "sets"],
            ["all", "only", "sets", "ends", "steps", "lookups"], ["choices", "lookups", "steps", "ends", "all", "is"],
            ["is", "less", "counts", "number", "text", "sets"], ["text", "only", "sets", "is"], ["ends", "counts"],
        ):
            for do in EVERY:
                do(elder(), newer(), kinds)


class Names(Raised):
    def bad_names(self):
        good = (None, [], ["low"])
        return [
            *[value for value in other_values() if not any(value is one or same(value, one) for one in good)],
            ("low",), ("low", "mid"), {"low": True}, "low", ["low", "low"], ["mid", "normal", "high", "mid"],
            ["top"], ["low", "top"], ["busy"], ["low", ""], ["Low"], ["low", None], ["low", True], ["low", 1],
            ["low", ("mid",)], ["low", ["mid"]], ["low", {}], [elder()], ["low", elder()["mid"]], [["low"]],
            [twice_over(("low",))], ["low", "mid", "high", "normal", "low"],
        ]

    def test_no_list_of_names(self):
        for do in EVERY:
            for names in self.bad_names():
                self.check(BadNames, names, do, elder(), newer(), ["is"], names=names)

    def test_names_of_the_newer_edition(self):
        later = edition_of("low,normal,old mid high,top new", {"busy": []})
        for do in EVERY:
            for word in ("old", "top", "new"):
                names = ["low", word]
                self.check(BadNames, names, do, elder(), later, ["is"], names=names)

    def test_before_fallbacks(self):
        for do in WITH_FALLBACKS:
            for names in self.bad_names()[::4]:
                self.check(BadNames, names, do, elder(), newer(), ["is"], names=names, fallbacks={})
                self.check(BadNames, names, do, elder(), newer(), ["is"], fallbacks=0, names=names)

    def test_lists_of_names(self):
        for do in EVERY:
            for names in (None, [], ["low"], ["normal"], ["mid", "normal"], ["high", "normal", "low", "mid"]):
                do(elder(), newer(), ["is"], names=names)


class Fallbacks(Raised):
    def bad_fallbacks(self):
        return [
            *[value for value in other_values() if value is not None],
            [("top", "high")], ("top", "high"), ["top"], {"top": "top"}, {"top": "normal"}, {"top": ""}, {"top": None},
            {"top": True}, {"top": 2}, {"top": ("high",)}, {"top": ["high"]}, {"top": {"high": "high"}},
            {"top": elder()["high"]}, {"top": twice_over(("high",))}, {"top": "busy"}, {"top": "High"},
            {"high": "high"}, {"top": "high", "high": "high"}, {"low": "low", "top": "high"},
            {"top": "high", "new": "low"},
            {"top": "high", None: "low"}, {"top": "high", 0: "low"}, {"top": "high", ("top",): "low"}, {"Top": "high"},
        ]

    def test_no_dict_of_fallbacks(self):
        for do in WITH_FALLBACKS:
            for fallbacks in self.bad_fallbacks():
                self.check(BadFallbacks, fallbacks, do, elder(), newer(), ["is"], fallbacks=fallbacks)
                self.check(BadFallbacks, fallbacks, do, elder(), newer(), ["text"], fallbacks=fallbacks, names=["low"])

    def test_no_new_member(self):
        for do in WITH_FALLBACKS:
            for fallbacks in ({"top": "high"}, {"low": "low"}, {"": "low"}, {None: None}, [], 0, False, ""):
                self.check(BadFallbacks, fallbacks, do, elder(), elder(), ["is"], fallbacks=fallbacks)
            do(elder(), elder(), ["is"], fallbacks={})

    def test_several_new_members(self):
        one, other = edition_of("a,b c"), edition_of("m,n a b c o")
        for do in WITH_FALLBACKS:
            for fallbacks in (
                {}, {"m": "a"}, {"o": "c"}, {"n": "a", "o": "c"}, {"m": "b", "o": "c"}, {"m": "a", "o": "m"},
                {"m": "a", "o": "c", "b": "a"}, {"m": "a", "o": "c", "n": "a"}, {"m": "a", "b": "c"},
                {"m": "a", "o": None},
            ):
                self.check(BadFallbacks, fallbacks, do, one, other, ["less"], fallbacks=fallbacks)
            do(one, other, ["less"], fallbacks={"o": "c", "m": "a"})
            do(one, other, ["less"], fallbacks={"m": "c", "o": "c"})


def same(value, other):
    """Whether two values are of one kind and equal."""
    return type(value) is type(other) and value == other
