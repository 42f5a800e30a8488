"""What callers answer in an edition."""

import unittest

from growlists.callers import answer
from growlists.editions import Edition
from tests.samples import elder, newer

FAILS = ("fails",)


def edition():
    """Order, names and numbers go unlike ways, so that none is taken for another."""
    return Edition([("d", ("x", "a"), 7), ("b", (), -3), ("c", ("y",), 0), ("e", (), 4)],
                   {"some": ["c", "b"], "rest": ["e", "d", "c"], "none": []})


def name(word):
    return ("name", word)


def group(word):
    return ("set", word)


LOST = ("next", ("last",))
LOST_SET = group("unknown")
LOST_TRUTH = ("is", LOST, name("b"))
TRUE = ("is", name("b"), name("b"))
FALSE = ("is", name("b"), name("c"))


class Answers(unittest.TestCase):
    def check(self, caller, told, where=None, **more):
        with self.subTest(caller):
            found = answer(caller, edition() if where is None else where, **more)
            # By repr, as True equals 1.
            self.assertEqual(repr(found), repr(told))

    def tells(self, caller, value):
        self.check(caller, ("told", value))

    def fails(self, *callers):
        for caller in callers:
            self.check(caller, FAILS)

    def is_member(self, deed, told):
        self.tells(("text", deed), told)

    def is_set(self, deed, *names):
        for word in ("d", "b", "c", "e"):
            self.tells(("in", name(word), deed), word in names)
        self.tells(("size", deed), len(names))
        self.tells(("empty", deed), len(names) == 0)


class Members(Answers):
    def test_name(self):
        for word, told in (("d", "d"), ("x", "d"), ("a", "d"), ("b", "b"), ("y", "c"), ("e", "e")):
            self.is_member(name(word), told)
        self.fails(("text", name("z")), ("text", name("some")))

    def test_numbered(self):
        for number, told in ((7, "d"), (-3, "b"), (0, "c"), (4, "e")):
            self.is_member(("numbered", number), told)
        self.fails(*[("text", ("numbered", number)) for number in (1, -7, 3, 2, 10 ** 59)])

    def test_ends_of_the_edition(self):
        self.is_member(("first",), "d")
        self.is_member(("last",), "e")

    def test_ends_of_sets(self):
        self.is_member(("first", group("some")), "b")
        self.is_member(("last", group("some")), "c")
        self.is_member(("first", group("rest")), "d")
        self.is_member(("last", group("rest")), "e")
        self.is_member(("first", ("only", name("c"))), "c")
        self.is_member(("last", ("only", name("c"))), "c")
        self.is_member(("last", ("all",)), "e")
        for word in ("first", "last"):
            self.fails(("text", (word, group("none"))), ("text", (word, LOST_SET)), ("text", (word, ("only", LOST))))
            self.fails(("text", (word, ("but", group("some"), ("all",)))))

    def test_steps(self):
        for one, other in (("d", "b"), ("b", "c"), ("c", "e")):
            self.is_member(("next", name(one)), other)
            self.is_member(("previous", name(other)), one)
        self.fails(("text", ("next", name("e"))), ("text", ("previous", name("d"))), ("text", ("previous", LOST)))
        self.fails(("text", ("next", ("previous", name("d")))), ("text", ("previous", ("next", name("e")))))
        self.is_member(("next", ("previous", name("b"))), "b")


class Sets(Answers):
    def test_set(self):
        self.is_set(group("some"), "b", "c")
        self.is_set(group("none"))
        self.fails(("empty", LOST_SET), ("empty", group("d")), ("size", group("x")))

    def test_all_and_only(self):
        self.is_set(("all",), "d", "b", "c", "e")
        self.is_set(("only", name("y")), "c")
        self.fails(("empty", ("only", LOST)), ("size", ("only", name("z"))))

    def test_or_and_but(self):
        self.is_set(("or", group("some"), group("rest")), "d", "b", "c", "e")
        self.is_set(("or", group("some"), ("only", name("d"))), "d", "b", "c")
        self.is_set(("and", group("some"), group("rest")), "c")
        self.is_set(("but", group("some"), group("rest")), "b")
        self.is_set(("but", group("rest"), group("some")), "d", "e")
        self.is_set(("and", group("none"), group("rest")))
        self.is_set(("but", group("some"), ("all",)))

    def test_or_and_but_fail_if_one_fails(self):
        for word in ("or", "and", "but"):
            self.fails(("empty", (word, LOST_SET, group("none"))), ("empty", (word, group("none"), LOST_SET)))
            self.fails(("empty", (word, group("some"), LOST_SET)), ("empty", (word, LOST_SET, ("all",))))


class TruthsNumbersTexts(Answers):
    def test_is(self):
        self.tells(("is", name("d"), name("x")), True)
        self.tells(("is", name("d"), name("b")), False)
        self.tells(("is", ("first",), ("numbered", 7)), True)

    def test_less(self):
        for one in range(4):
            for other in range(4):
                words = ("d", "b", "c", "e")
                self.tells(("less", name(words[one]), name(words[other])), one < other)

    def test_in_and_empty(self):
        self.tells(("in", name("y"), group("some")), True)
        self.tells(("in", name("d"), group("some")), False)
        self.tells(("empty", group("none")), True)
        self.tells(("empty", group("some")), False)

    def test_truths_fail_if_one_fails(self):
        for word in ("is", "less"):
            self.fails((word, LOST, name("b")), (word, name("b"), LOST), (word, LOST, LOST))
        self.fails(("in", LOST, group("some")), ("in", name("b"), LOST_SET), ("in", LOST, group("none")))
        self.fails(("empty", LOST_SET))

    def test_numbers(self):
        self.tells(("size", group("rest")), 3)
        self.tells(("size", group("none")), 0)
        for place, (word, number) in enumerate((("d", 7), ("b", -3), ("c", 0), ("e", 4))):
            self.tells(("place", name(word)), place)
            self.tells(("number", name(word)), number)
        self.fails(("size", LOST_SET), ("place", LOST), ("number", LOST))

    def test_text(self):
        self.tells(("text", name("y")), "c")
        self.tells(("text", name("c")), "c")
        self.fails(("text", LOST))


class Choices(Answers):
    def test_if(self):
        self.tells(("if", TRUE, ("text", name("d")), ("text", name("b"))), "d")
        self.tells(("if", FALSE, ("text", name("d")), ("text", name("b"))), "b")
        self.fails(("if", LOST_TRUTH, TRUE, TRUE), ("if", LOST_TRUTH, ("text", name("d")), ("text", name("d"))))

    def test_if_looks_at_one_only(self):
        self.tells(("if", TRUE, ("text", name("d")), ("text", LOST)), "d")
        self.tells(("if", FALSE, ("text", LOST), ("text", name("d"))), "d")
        self.fails(("if", TRUE, ("text", LOST), ("text", name("d"))))
        self.fails(("if", FALSE, ("text", name("d")), ("text", LOST)))

    def test_if_of_each_sort(self):
        self.is_member(("if", TRUE, name("d"), name("b")), "d")
        self.is_member(("if", FALSE, name("d"), name("b")), "b")
        self.is_set(("if", TRUE, group("some"), group("none")), "b", "c")
        self.is_set(("if", FALSE, group("some"), group("none")))
        self.tells(("if", FALSE, TRUE, FALSE), False)
        self.tells(("if", ("if", FALSE, FALSE, TRUE), ("number", name("d")), ("place", name("e"))), 7)

    def test_else(self):
        self.tells(("else", ("text", name("d")), ("text", name("b"))), "d")
        self.tells(("else", ("text", LOST), ("text", name("b"))), "b")
        self.tells(("else", ("text", name("d")), ("text", LOST)), "d")
        self.fails(("else", ("text", LOST), ("text", LOST)), ("else", LOST_TRUTH, LOST_TRUTH))

    def test_else_of_each_sort(self):
        self.is_member(("else", LOST, name("b")), "b")
        self.is_member(("else", name("d"), LOST), "d")
        self.fails(("text", ("else", LOST, LOST)))
        self.is_set(("else", LOST_SET, group("some")), "b", "c")
        self.is_set(("else", ("else", LOST_SET, LOST_SET), ("only", name("d"))), "d")
        self.tells(("else", LOST_TRUTH, FALSE), False)

    def test_else_takes_false_zero_and_empty_for_told(self):
        self.tells(("else", FALSE, TRUE), False)
        self.tells(("else", ("place", name("d")), ("place", name("e"))), 0)
        self.tells(("else", ("number", name("c")), ("number", name("d"))), 0)
        self.is_set(("else", group("none"), ("all",)))
        self.is_member(("else", name("d"), name("b")), "d")

    def test_a_choice_in_a_choice(self):
        self.tells(("else", ("if", LOST_TRUTH, TRUE, TRUE), FALSE), False)
        self.tells(("if", ("else", LOST_TRUTH, TRUE), ("text", name("e")), ("text", LOST)), "e")


class Entries(Answers):
    def test_known_names_and_aliases(self):
        for word, told in (("d", "d"), ("x", "d"), ("y", "c")):
            self.check(("text", ("entry", word)), ("told", told))
            self.check(("text", ("entry", word)), ("told", told), fallbacks={})
            self.check(("text", ("entry", word)), ("told", told), fallbacks={word: "e"})

    def test_fallbacks_to_names_and_aliases(self):
        fallbacks = {"top": "b", "tip": "y", "lost": "gone", "gone": "b"}
        for word, told in (("top", "b"), ("tip", "c"), ("gone", "b")):
            self.check(("text", ("entry", word)), ("told", told), fallbacks=fallbacks)
        self.assertEqual(fallbacks, {"top": "b", "tip": "y", "lost": "gone", "gone": "b"})

    def test_no_such_fallback(self):
        caller = ("text", ("entry", "top"))
        for fallbacks in (None, {}, {"tip": "b"}, {"b": "top"}, {"top": "gone"}, {"top": "some"}, {"top": "top"},
                          {"top": "tip", "tip": "b"}):
            self.check(caller, FAILS, fallbacks=fallbacks)
        self.check(caller, FAILS)

    def test_names_have_no_fallbacks(self):
        self.check(("text", name("top")), FAILS, fallbacks={"top": "b"})
        self.check(("empty", group("top")), FAILS, fallbacks={"top": "some"})

    def test_in_both_editions(self):
        caller = ("number", ("entry", "top"))
        self.check(caller, ("told", 9), elder(), fallbacks={"top": "high"})
        self.check(caller, ("told", 12), newer(), fallbacks={"top": "high"})
        self.check(("is", ("entry", "top"), ("next", ("entry", "tip"))), ("told", True), elder(),
                   fallbacks={"top": "high", "tip": "normal"})

    def test_fallbacks_are_passed_by_name_only(self):
        self.assertRaises(TypeError, answer, ("text", ("entry", "top")), elder(), {"top": "high"})


class Arguments(Answers):
    def test_answers_are_tuples_of_plain_values(self):
        callers = [TRUE, FALSE, ("empty", ("all",)), ("in", name("d"), ("all",)), ("less", ("first",), ("last",)),
                   ("size", ("all",)), ("text", ("first",))]
        self.assertEqual([type(answer(caller, edition())[1]) for caller in callers], [bool] * 5 + [int, str])
        self.assertIs(type(answer(("text", LOST), edition())), tuple)

    def test_sixty_deeds_inside_one_another(self):
        deed = ("first",)
        for _ in range(29):
            deed = ("previous", ("next", deed))
        self.tells(("text", deed), "d")

    def test_the_edition_stays_as_it_was(self):
        where = edition()
        answer(("empty", ("or", group("some"), ("but", ("all",), group("rest")))), where)
        self.assertEqual(where, edition())
