"""The whole interface: where its names stand, how their arguments are called, and that what is returned is new."""

import copy
import importlib
import inspect
import itertools
import unittest

from growlists.callers import answer, is_caller, is_written_for, kinds_of, size_of
from growlists.editions import Edition, Group, Member
from growlists.keeping import is_evidence, kept
from growlists.later import is_later, lasts
from growlists.newer import lost_name, new_members
from growlists.pairs import reached
from growlists.posts import Post
from growlists.rows import losing_row, lost_on, through
from growlists.safety import greatest, safe_fallbacks
from growlists.shortest import shortest
from growlists.texts import edition_text, read_edition
from tests.samples import elder, elder_rows, newer

FUNCTIONS = {
    "callers": {
        "is_caller": "(value)", "size_of": "(caller)", "kinds_of": "(caller)", "is_written_for": "(caller, edition)",
        "answer": "(caller, edition, *, fallbacks=None)",
    },
    "newer": {"lost_name": "(elder, newer)", "new_members": "(elder, newer)"},
    "pairs": {"reached": "(elder, newer, kinds, *, names=None, fallbacks=None)"},
    "keeping": {
        "kept": "(elder, newer, kinds, *, names=None, fallbacks=None)",
        "is_evidence": "(elder, newer, kinds, value, *, names=None, fallbacks=None)",
    },
    "shortest": {"shortest": "(elder, newer, kinds, *, most=6, names=None, fallbacks=None)"},
    "safety": {
        "greatest": "(elder, newer, kinds, *, names=None, fallbacks=None)",
        "safe_fallbacks": "(elder, newer, kinds, *, names=None)",
    },
    "later": {"is_later": "(edition, later, rule)", "lasts": "(edition, caller, rule)"},
    "rows": {
        "through": "(post, row, name)", "lost_on": "(post, row)", "losing_row": "(post, first, *, most=4)",
    },
    "texts": {"edition_text": "(edition)", "read_edition": "(text)"},
}

METHODS = {
    Edition: {
        "__init__": "(self, members, sets=None)", "numbered": "(self, number)", "group": "(self, name)",
        "everything": "(self)",
    },
    Member: {"before": "(self, other)", "next": "(self)", "previous": "(self)"},
    Post: {
        "__init__": "(self)", "add": "(self, name, edition, *, wire='number', manner='refuse')",
        "edition_of": "(self, name)", "held": "(self, name)", "put": "(self, name, member)",
        "drop": "(self, name, position)", "hand": "(self, giver, getter, position)",
        "upgrade": "(self, name, edition)", "undo": "(self, number)", "fork": "(self)",
    },
}

PROPERTIES = {Edition: ["names", "sets"], Group: ["names"], Post: ["houses"]}
OPERATORS = {
    Edition: ["__len__", "__contains__", "__getitem__", "__eq__"], Member: ["__eq__"],
    Group: ["__or__", "__and__", "__sub__", "__contains__", "__len__", "__bool__", "__eq__"], Post: ["__eq__"],
}


def stocked():
    post = Post()
    post.add("shop", newer())
    post.add("till", elder(), manner="keep")
    post.add("bin", elder(), wire="name", manner="fall")
    post.put("shop", "top")
    post.put("till", "mid")
    post.hand("shop", "till", 0)
    return post


class Places(unittest.TestCase):
    def test_functions_stand_in_their_files(self):
        for module, functions in FUNCTIONS.items():
            found = importlib.import_module("growlists." + module)
            for name, signature in functions.items():
                with self.subTest(name):
                    function = vars(found)[name]
                    self.assertEqual(function.__module__, "growlists." + module)
                    self.assertTrue(inspect.isfunction(function))
                    self.assertEqual(str(inspect.signature(function)), signature)

    def test_classes_stand_in_their_files(self):
        for word, module in ((Edition, "editions"), (Member, "editions"), (Group, "editions"), (Post, "posts")):
            self.assertEqual(word.__module__, "growlists." + module)

    def test_methods_stand_in_their_classes(self):
        for owner, methods in METHODS.items():
            for name, signature in methods.items():
                with self.subTest(name):
                    self.assertEqual(str(inspect.signature(vars(owner)[name])), signature)
        for owner, names in PROPERTIES.items():
            for name in names:
                self.assertIsInstance(vars(owner)[name], property)
        for owner, names in OPERATORS.items():
            for name in names:
                self.assertIn(name, vars(owner))


class ByName(unittest.TestCase):
    """Each function and method, called by place, by name, in every sequence, and with what is left out."""

    def check(self, do, first, more, told=lambda value: value):
        """Call it with first, a dict of what may be passed by place, and more, what is passed by name only."""
        by_place = told(do(*first.values(), **more))
        for many in range(len(first) + 1):
            rest = {**dict(list(first.items())[many:]), **more}
            for names in itertools.permutations(rest):
                given = {name: rest[name] for name in names}
                self.assertEqual(told(do(*list(first.values())[:many], **given)), by_place, (do, given))
        for name in more:
            left = {key: value for key, value in more.items() if key != name}
            with self.assertRaises(TypeError):
                do(*first.values(), more[name], **left)

    def test_editions(self):
        self.check(Edition, {"members": elder_rows(), "sets": {"busy": ["mid"]}}, {})
        self.assertEqual(Edition(members=elder_rows()), Edition(elder_rows(), None))
        self.check(elder().numbered, {"number": 5}, {})
        self.check(elder().group, {"name": "busy"}, {})
        self.check(elder()["low"].before, {"other": elder()["mid"]}, {})

    def test_callers(self):
        caller = ("text", ("entry", "top"))
        self.check(is_caller, {"value": caller}, {})
        self.check(size_of, {"caller": caller}, {})
        self.check(kinds_of, {"caller": caller}, {})
        self.check(is_written_for, {"caller": caller, "edition": elder()}, {})
        self.check(answer, {"caller": caller, "edition": elder()}, {"fallbacks": {"top": "high"}})
        self.assertEqual(answer(caller, edition=elder(), fallbacks={"top": "normal"}), ("told", "mid"))
        self.assertEqual(answer(edition=elder(), caller=caller), ("fails",))
        self.assertEqual(answer(caller, elder(), fallbacks=None), ("fails",))

    def test_newer(self):
        for do in (lost_name, new_members):
            self.check(do, {"elder": elder(), "newer": newer()}, {})

    def test_kinds(self):
        first = {"elder": elder(), "newer": newer(), "kinds": ["sets", "all"]}
        more = {"names": ["mid"], "fallbacks": {"top": "high"}}
        for do in (reached, kept, greatest):
            self.check(do, first, more)
            self.assertEqual(do(**first), do(**first, names=None, fallbacks=None))
            with_fallbacks = do(*first.values(), names=None, fallbacks={"top": "high"})
            self.assertEqual(do(**first, fallbacks=more["fallbacks"]), with_fallbacks)
            self.assertEqual(do(**first, names=["low"]), do(*first.values(), fallbacks=None, names=["low"]))
        self.check(is_evidence, {**first, "value": reached(**first, **more)}, more)
        self.assertIs(is_evidence(**first, value=reached(**first)), True)
        self.check(safe_fallbacks, first, {"names": ["mid"]})
        self.assertEqual(safe_fallbacks(**first), safe_fallbacks(*first.values(), names=None))

    def test_shortest(self):
        first = {"elder": elder(), "newer": newer(), "kinds": ["is", "ends"]}
        self.check(shortest, first, {"names": ["mid"], "fallbacks": {"top": "high"}, "most": 4})
        self.assertEqual(shortest(**first), shortest(**first, most=6, names=None, fallbacks=None))
        self.assertIsNone(shortest(**first, most=2))
        self.assertEqual(size_of(shortest(**first, most=3)), 3)

    def test_most_where_it_is_left_out(self):
        rows = [(word, (), at) for at, word in enumerate("abcdef")]
        other = Edition([*rows[:5], ("n", (), 9), rows[5]])
        given = {"elder": Edition(rows), "newer": other, "kinds": ["text", "steps"]}
        self.assertIsNone(shortest(**given, names=["a"]))
        self.assertIsNone(shortest(**given, names=["a"], most=6))
        self.assertEqual(size_of(shortest(**given, names=["a"], most=7)), 7)
        self.assertEqual(size_of(shortest(**given, names=["b"])), 6)

    def test_later(self):
        self.check(is_later, {"edition": elder(), "later": newer(), "rule": ("end", ["busy"])}, {})
        given = {"edition": elder(), "caller": ("text", ("last",)), "rule": ("any", ["busy"])}
        self.check(lasts, given, {}, edition_text)

    def test_posts(self):
        def doing(word, told=lambda post, got: (got, [(name, post.held(name)) for name in post.houses])):
            def do(*given, **more):
                post = stocked()
                got = getattr(post, word)(*given, **more)
                return told(post, got), post.fork()
            return do

        self.check(doing("add"), {"name": "desk", "edition": elder()}, {"wire": "name", "manner": "keep"})
        self.check(doing("edition_of"), {"name": "till"}, {})
        self.check(doing("held"), {"name": "till"}, {})
        self.check(doing("put"), {"name": "till", "member": "normal"}, {})
        self.check(doing("drop"), {"name": "till", "position": 1}, {})
        self.check(doing("hand"), {"giver": "shop", "getter": "till", "position": 0}, {})
        self.check(doing("upgrade"), {"name": "till", "edition": newer()}, {})
        self.check(doing("undo"), {"number": 2}, {})
        posts = [stocked() for _ in range(4)]
        posts[0].add("desk", elder())
        posts[1].add("desk", elder(), wire="number")
        posts[2].add("desk", elder(), manner="refuse")
        posts[3].add(manner="refuse", edition=elder(), wire="number", name="desk")
        for post in posts:
            self.assertTrue(post == posts[0])

    def test_rows(self):
        self.check(through, {"post": stocked(), "row": ["shop", "till"], "name": "top"}, {})
        self.check(lost_on, {"post": stocked(), "row": ["shop", "till"]}, {})
        self.check(losing_row, {"post": stocked(), "first": "shop"}, {"most": 3})
        self.assertEqual(losing_row(first="shop", post=stocked()), ["shop", "bin", "shop"])

    def test_texts(self):
        self.check(edition_text, {"edition": elder()}, {})
        self.check(read_edition, {"text": edition_text(elder())}, {})


class New(unittest.TestCase):
    """Lists and dicts that are returned are new: what is done to one is seen nowhere else."""

    def spoil(self, value):
        """Change a list or dict, and those in it."""
        if isinstance(value, (list, tuple)):
            for part in value:
                self.spoil(part)
        if isinstance(value, list):
            value.append("spoiled")
            value.reverse()
        if isinstance(value, dict):
            value["spoiled"] = "spoiled"

    def test_functions_methods_and_properties(self):
        one, other, post = elder(), newer(), stocked()
        kinds, names, fallbacks = ["sets", "all"], ["mid"], {"top": "high"}
        row = ["shop", "till"]
        caller = ("text", ("next", ("first", ("set", "busy"))))
        every, busy, fork = one.everything(), one.group("busy"), post.fork()
        for take in (
            lambda: one.names, lambda: one.sets, lambda: every.names, lambda: busy.names, lambda: (busy | every).names,
            lambda: kinds_of(caller), lambda: new_members(one, other),
            lambda: reached(one, other, kinds, names=names, fallbacks=fallbacks),
            lambda: reached(one, other, ["sets", "only"]), lambda: reached(one, one, ["is"]),
            lambda: greatest(one, other, kinds, names=names, fallbacks=fallbacks),
            lambda: greatest(one, other, ["is", "less"]),
            lambda: safe_fallbacks(one, other, kinds, names=names), lambda: safe_fallbacks(one, one, kinds),
            lambda: post.houses, lambda: post.held("till"), lambda: post.held("bin"), lambda: fork.held("till"),
            lambda: fork.houses, lambda: lost_on(post, row), lambda: lost_on(post, ["till", "shop"]),
            lambda: losing_row(post, "shop"), lambda: lasts(one, caller, ("any", ["busy"])).names,
        ):
            first = take()
            before = copy.deepcopy(first)
            self.spoil(first)
            self.assertNotEqual(first, before)
            self.assertEqual(take(), before)
        self.assertEqual((one, other), (elder(), newer()))
        self.assertTrue(post == stocked() == fork)
        self.assertEqual((kinds, names, fallbacks, row), (["sets", "all"], ["mid"], {"top": "high"}, ["shop", "till"]))

    def test_methods_that_return_nothing(self):
        post = Post()
        self.assertEqual([post.add("a", elder()), post.put("a", "low"), post.drop("a", 0)], [None] * 3)
        self.assertEqual([post.upgrade("a", newer()), post.undo(1), post.undo(0)], [None] * 3)
