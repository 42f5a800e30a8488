"""What is a caller, and what can be said of it without an answer."""

import unittest

from growlists.callers import answer, is_caller, is_written_for, kinds_of, size_of
from growlists.editions import Edition
from growlists.errors import BadCaller
from tests.samples import elder, other_values, twice_over

# One deed of each sort that tells it, to put into other deeds.
LOW = ("name", "low")
BUSY = ("set", "busy")
IS = ("is", LOW, LOW)
SIZE = ("size", BUSY)
TEXT = ("text", LOW)
OF_SORT = {"member": LOW, "set": BUSY, "truth": IS, "number": SIZE, "text": TEXT}

# Each deed whose parts are deeds: its word, what it tells, and what its parts tell.
DEEDS = [
    ("first", "member", []), ("last", "member", []), ("first", "member", ["set"]), ("last", "member", ["set"]),
    ("next", "member", ["member"]), ("previous", "member", ["member"]),
    ("all", "set", []), ("only", "set", ["member"]), ("or", "set", ["set", "set"]), ("and", "set", ["set", "set"]),
    ("but", "set", ["set", "set"]),
    ("is", "truth", ["member", "member"]), ("less", "truth", ["member", "member"]), ("in", "truth", ["member", "set"]),
    ("empty", "truth", ["set"]),
    ("size", "number", ["set"]), ("place", "number", ["member"]), ("number", "number", ["member"]),
    ("text", "text", ["member"]),
]
for _sort in OF_SORT:
    DEEDS.append(("if", _sort, ["truth", _sort, _sort]))
    DEEDS.append(("else", _sort, [_sort, _sort]))

# What a deed of a sort stands in, so that a caller comes of it.
AROUND = {
    "member": lambda deed: ("text", deed),
    "set": lambda deed: ("empty", deed),
    "truth": lambda deed: deed,
    "number": lambda deed: deed,
    "text": lambda deed: deed,
}


def deed_of(word, sorts):
    return (word, *[OF_SORT[sort] for sort in sorts])


def chain(many):
    """A caller of so many deeds, each of them in the one before."""
    deed = ("first",)
    for _ in range(many - 2):
        deed = ("next", deed)
    return ("text", deed)


def bush(many):
    """A caller of so many deeds, an even number, many of them beside one another."""
    deed = ("all",)
    while size_of(("empty", deed)) < many - 1:
        deed = ("or", ("all",), deed)
    return ("empty", deed)


class Right(unittest.TestCase):
    def check(self, *values):
        for value in values:
            with self.subTest(value):
                self.assertIs(is_caller(value), True)

    def test_each_deed(self):
        for word, sort, sorts in DEEDS:
            self.check(AROUND[sort](deed_of(word, sorts)))

    def test_names_and_numbers(self):
        self.check(*[("text", ("name", name)) for name in ("a", "low", "unknown", "abcdefgh", "if")])
        self.check(*[("text", ("entry", name)) for name in ("a", "low", "unknown", "abcdefgh")])
        self.check(*[("empty", ("set", name)) for name in ("a", "low", "unknown", "abcdefgh")])
        self.check(*[("text", ("numbered", number)) for number in (0, 1, -1, 10 ** 9, 10 ** 9 + 1, -10 ** 59)])

    def test_choices_of_each_sort_that_a_caller_tells(self):
        for told in (IS, SIZE, TEXT):
            self.check(("if", IS, told, told), ("else", told, told))
            self.check(("else", ("if", IS, told, told), ("else", told, told)))
        self.check(("if", ("if", IS, IS, IS), ("number", LOW), ("place", LOW)))
        self.check(("if", ("else", IS, IS), IS, ("empty", BUSY)))

    def test_nested(self):
        self.check(("text", ("next", ("name", "normal"))), ("size", ("but", ("all",), ("set", "busy"))))
        self.check(("is", ("first", ("or", ("only", LOW), ("and", ("all",), BUSY))), ("last", ("but", ("all",), BUSY))))

    def test_sixty_deeds(self):
        self.check(chain(60), bush(60), chain(59))
        self.assertEqual([size_of(chain(60)), size_of(bush(60)), size_of(bush(58))], [60, 60, 58])

    def test_argument_by_name(self):
        self.assertEqual([is_caller(value=TEXT), size_of(caller=TEXT), kinds_of(caller=TEXT)], [True, 2, ["text"]])
        self.assertIs(is_written_for(edition=elder(), caller=TEXT), True)
        self.assertEqual(answer(edition=elder(), caller=TEXT, fallbacks=None), ("told", "low"))


def sixty_one_deeds():
    deep = chain(60)
    return [("text", ("next", deep[1])), ("else", bush(58), ("empty", ("all",)))]


def nearly_callers():
    """Values that one thing keeps from being callers."""
    found = []
    for word, sort, sorts in DEEDS:
        around = AROUND[sort]
        deed = deed_of(word, sorts)
        # A wrong word, a part more, and lists for tuples.
        words = ("what", word.upper(), word + " ", "", None, 0, (word,), [word])
        found += [around((other, *deed[1:])) for other in words]
        found += [around(deed + (deed,)), around(list(deed)), list(around(deed))]
        for place, wanted in enumerate(sorts, 1):
            others = [OF_SORT[other] for other in OF_SORT if other != wanted]
            others += [list(OF_SORT[wanted]), "low", None, 0, True, (), elder()["low"], elder().everything()]
            found += [around(deed[:place] + (other,) + deed[place + 1:]) for other in others]
            if (word, len(sorts)) not in (("first", 1), ("last", 1)):
                found.append(around(deed[:place] + deed[place + 1:]))
    return found


def wrong_leaves():
    """Callers but for a name or a number in them."""
    found = []
    for value in other_values():
        found += [("empty", ("set", value)), ("text", ("name", value)), ("text", ("entry", value))]
        if not isinstance(value, int) or isinstance(value, bool):
            found.append(("text", ("numbered", value)))
    for name in ("low2", "LOW", "lo w", "low\n", "abcdefghi"):
        found += [("empty", ("set", name)), ("text", ("name", name)), ("text", ("entry", name))]
    for word in ("name", "entry", "numbered"):
        found += [("text", (word,)), ("text", (word, "low", "low")), ("text", (word, 1, 1)), ("empty", (word, "low"))]
    found += [("empty", ("set",)), ("empty", ("set", "busy", "busy")), ("text", ("set", "busy"))]
    found += [("text", ("numbered", "low")), ("empty", ("numbered", 1))]
    return found


def not_callers():
    lone = [LOW, BUSY, ("numbered", 1), ("entry", "low"), ("first",), ("last",), ("all",), ("next", LOW),
            ("or", BUSY, BUSY), ("only", LOW), ("if", IS, LOW, LOW), ("if", IS, BUSY, BUSY), ("else", LOW, LOW),
            ("else", BUSY, BUSY)]
    pairs = [(one, other) for one in OF_SORT.values() for other in OF_SORT.values() if one != other]
    unlike = [("if", IS, one, other) for one, other in pairs]
    unlike += [("else", one, other) for one, other in pairs]
    unlike += [("empty", ("if", IS, BUSY, LOW)), ("text", ("else", LOW, BUSY)), ("else", IS, ("else", IS, TEXT))]
    endless = [("empty", twice_over(("all",))), ("empty", twice_over((), 29)), twice_over(("all",))]
    words = [("is",), ("text",), ("if",), ("if", IS), ("else",), ("else", IS), ("told", True), ("fails",), "text", "is",
             ["text", LOW]]
    return nearly_callers() + wrong_leaves() + lone + unlike + endless + words + sixty_one_deeds() + other_values()


class Wrong(unittest.TestCase):
    def test_is_caller(self):
        for place, value in enumerate(not_callers()):
            with self.subTest(place):
                self.assertIs(is_caller(value), False)

    def test_the_others_raise_bad_caller(self):
        edition = elder()
        takes = [size_of, kinds_of, lambda value: is_written_for(value, edition), lambda value: answer(value, edition),
                 lambda value: answer(value, edition, fallbacks={"top": "low"})]
        for place, value in enumerate(not_callers()):
            for take in takes:
                with self.subTest(place), self.assertRaises(BadCaller) as caught:
                    take(value)
                self.assertTrue(caught.exception.value is value)

    def test_sixty_one_deeds(self):
        self.assertEqual([is_caller(value) for value in (chain(60), chain(61), chain(62), chain(400))],
                         [True, False, False, False])
        wide = bush(60)
        wider = ("empty", ("or", wide[1], ("but", ("all",), ("all",))))
        self.assertEqual([is_caller(wide), is_caller(wider)], [True, False])

    def test_a_wrong_branch_counts_although_it_is_not_looked_at(self):
        self.assertIs(is_caller(("if", IS, TEXT, ("text", BUSY))), False)
        self.assertIs(is_caller(("else", TEXT, ("text",))), False)


class Size(unittest.TestCase):
    def test_size(self):
        for caller, size in [(("empty", ("all",)), 2), (TEXT, 2), (IS, 3), (("text", ("first",)), 2),
                             (("text", ("numbered", 5)), 2), (("text", ("entry", "top")), 2),
                             (("text", ("next", ("name", "normal"))), 3), (("size", ("but", ("all",), BUSY)), 4),
                             (("if", IS, TEXT, ("text", ("first", BUSY))), 9), (("else", IS, ("in", LOW, BUSY)), 7),
                             (chain(33), 33)]:
            with self.subTest(caller):
                self.assertEqual(size_of(caller), size)

    def test_equal_deeds_count_each_time(self):
        shared = ("or", ("all",), ("all",))
        self.assertEqual(size_of(("empty", ("and", shared, shared))), 8)


class Kinds(unittest.TestCase):
    def check(self, caller, *kinds):
        with self.subTest(caller):
            self.assertEqual(kinds_of(caller), list(kinds))

    def test_each_kind(self):
        self.check(IS, "is")
        self.check(("less", LOW, LOW), "less")
        self.check(TEXT, "text")
        self.check(("number", LOW), "number")
        self.check(("place", LOW), "counts")
        self.check(("empty", BUSY), "sets")
        self.check(("in", LOW, BUSY), "sets")
        self.check(("size", ("set", "busy")), "counts", "sets")
        self.check(("empty", ("all",)), "all", "sets")
        self.check(("in", LOW, ("only", LOW)), "only", "sets")
        for word in ("or", "and", "but"):
            self.check(("empty", (word, BUSY, BUSY)), "sets")
            self.check(("size", (word, ("all",), ("all",))), "all", "counts", "sets")
        self.check(("size", ("all",)), "all", "counts")
        self.check(("size", BUSY), "counts", "sets")
        self.check(("size", ("only", LOW)), "counts", "only")
        for word in ("first", "last"):
            self.check(("text", (word,)), "ends", "text")
            self.check(("text", (word, ("all",))), "all", "ends", "text")
        for word in ("next", "previous"):
            self.check(("text", (word, LOW)), "steps", "text")
        self.check(("text", ("numbered", 1)), "lookups", "text")
        self.check(("text", ("entry", "top")), "text")
        self.check(("if", IS, TEXT, TEXT), "choices", "is", "text")
        self.check(("else", TEXT, TEXT), "choices", "text")

    def test_all_at_once_ascending_each_once(self):
        caller = ("if", ("less", ("first",), ("next", LOW)), ("else", ("number", LOW), ("place", ("numbered", 1))),
                  ("if", ("is", LOW, LOW), ("size", ("or", ("only", LOW), ("all",))), ("size", ("all",))))
        self.check(caller, "all", "choices", "counts", "ends", "is", "less", "lookups", "number", "only", "sets",
                   "steps")
        self.check(("is", ("next", ("next", LOW)), ("previous", LOW)), "is", "steps")

    def test_lists_are_new(self):
        kinds_of(IS).clear()
        self.assertEqual(kinds_of(IS), ["is"])


class WrittenFor(unittest.TestCase):
    def check(self, told, *callers):
        for caller in callers:
            with self.subTest(caller):
                self.assertIs(is_written_for(caller, elder()), told)

    def test_names(self):
        self.check(True, ("text", ("name", "low")), ("text", ("name", "normal")))
        self.check(True, ("text", ("first",)), ("size", ("all",)))
        self.check(False, ("text", ("name", "top")), ("text", ("name", "busy")))
        self.check(False, ("is", LOW, ("name", "top")), ("is", ("name", "top"), LOW))

    def test_names_of_sets(self):
        self.check(True, ("size", ("set", "busy")))
        self.check(False, ("size", ("set", "low")), ("size", ("set", "normal")), ("size", ("set", "idle")))
        self.check(False, ("size", ("or", BUSY, ("set", "idle"))))

    def test_numbers(self):
        self.check(True, *[("text", ("numbered", number)) for number in (1, 5, 9)])
        self.check(False, *[("text", ("numbered", number)) for number in (0, 2, -1, 10 ** 59)])

    def test_entries_do_not_matter(self):
        self.check(True, ("text", ("entry", "top")), ("text", ("entry", "low")), ("is", LOW, ("entry", "top")))
        self.check(False, ("is", ("name", "top"), ("entry", "top")))

    def test_what_is_not_looked_at_matters(self):
        self.check(False, ("if", IS, TEXT, ("text", ("name", "top"))), ("else", TEXT, ("text", ("numbered", 2))))
        self.check(True, ("if", IS, TEXT, ("text", ("name", "mid"))), ("else", TEXT, ("text", ("numbered", 5))))

    def test_failing_does_not_matter(self):
        self.check(True, ("text", ("next", ("name", "high"))))

    def test_other_editions(self):
        edition = Edition([("top", ("low",), 0)], {"low": []})
        self.assertIs(is_written_for(("in", ("name", "low"), ("set", "low")), edition), True)
        self.assertIs(is_written_for(("is", ("numbered", 0), ("name", "top")), edition), True)
        self.assertIs(is_written_for(("in", ("name", "low"), ("set", "top")), edition), False)
        self.assertIs(is_written_for(("text", ("numbered", 1)), edition), False)
