"""What houses hand to one another, and what they hold after an upgrade."""

import unittest

from growlists.editions import Edition
from growlists.errors import NotHeld
from growlists.posts import Post
from growlists.texts import edition_text
from tests.samples import edition_of

WIRES = ("name", "number")
MANNERS = ("refuse", "fall", "keep")

# Some names and numbers of giver() are known in getter(), but not always by the same member.
GIVEN = {
    # What is put: what comes over the wires "name" and "number", and what getter() knows by it.
    "a": (("a", "a"), (1, "c")),
    "b": (("b", "c"), (2, None)),
    "c": (("c", "c"), (3, "d")),
    "d": (("d", "d"), (4, None)),
    "e": (("e", None), (5, "a")),
    "f": (("f", None), (6, None)),
}


def giver():
    rows = [("a", (), 1), ("b", ("x",), 2), ("c", (), 3), ("d", ("y", "z"), 4), ("e", (), 5), ("f", ("c" * 8,), 6)]
    return Edition(rows)


def getter():
    return Edition([("g", ("x", "y"), -7), ("a", (), 5), ("c", ("b",), 1), ("d", (), 3)])


def met(wire, manner, other_wire="number"):
    """A post with a giver that holds all its members, and a getter that holds one."""
    post = Post()
    post.add("giver", giver(), wire=other_wire, manner="keep")
    post.add("getter", getter(), wire=wire, manner=manner)
    for name in giver().names:
        post.put("giver", name)
    post.put("getter", "d")
    return post


class Members(unittest.TestCase):
    def test_each_member_by_each_wire_and_manner(self):
        for at, (name, ways) in enumerate(GIVEN.items()):
            for wire, (what, known) in zip(WIRES, ways):
                for manner in MANNERS:
                    for other_wire in WIRES:
                        with self.subTest((name, wire, manner, other_wire)):
                            post = met(wire, manner, other_wire)
                            unknown = {"refuse": None, "fall": "g", "keep": ("unknown", wire, what)}[manner]
                            got = known or unknown
                            self.assertEqual(post.hand("giver", "getter", at), got)
                            self.assertEqual(post.held("getter"), ["d"] if got is None else ["d", got])
                            self.assertEqual(post.held("giver"), giver().names)
                            self.assertEqual(post.edition_of("giver"), giver())
                            self.assertEqual(post.edition_of("getter"), getter())

    def test_the_name_is_written_not_an_alias(self):
        post = Post()
        post.add("giver", edition_of("a,b"))
        post.add("getter", edition_of("c b"), wire="name", manner="keep")
        post.put("giver", "b")
        self.assertEqual(post.hand("giver", "getter", 0), ("unknown", "name", "a"))

    def test_behind_what_is_held(self):
        post = met("name", "keep")
        for at in (3, 0, 5, 0):
            post.hand("giver", "getter", at)
        self.assertEqual(post.held("getter"), ["d", "d", "a", ("unknown", "name", "f"), "a"])

    def test_a_house_and_itself(self):
        for wire in WIRES:
            for manner in MANNERS:
                post = Post()
                post.add("one", giver(), wire=wire, manner=manner)
                for name in ("x", "f"):
                    post.put("one", name)
                self.assertEqual(post.hand("one", "one", 0), "b")
                self.assertEqual(post.hand("one", "one", 1), "f")
                self.assertEqual(post.held("one"), ["b", "f", "b", "f"])

    def test_positions(self):
        post = met("name", "refuse")
        self.assertEqual(post.hand("giver", "getter", 3), "d")
        self.assertEqual(post.hand("getter", "giver", 1), "c")
        for position in (-1, 2, 7, True, False, None, "0", 10 ** 59):
            with self.assertRaises(NotHeld) as caught:
                post.hand("getter", "giver", position)
            self.assertTrue(caught.exception.position is position)
        self.assertEqual(post.held("giver"), [*giver().names, "c"])

    def test_numbers_that_look_like_truths(self):
        for number in (0, 1):
            post = Post()
            post.add("one", Edition([("a", (), number)]))
            post.add("other", Edition([("b", (), 2)]), manner="keep")
            post.put("one", "a")
            _, wire, what = post.hand("one", "other", 0)
            self.assertEqual((wire, what), ("number", number))
            self.assertTrue(type(what) is int)


class Unknown(unittest.TestCase):
    def passed(self, wire, other_wire, manner, edition):
        """What is got of an unknown value, and what the getter holds then."""
        post = Post()
        post.add("first", edition_of("p q"))
        post.add("giver", edition_of("a b", numbers=[11, 12]), wire=wire, manner="keep")
        post.add("getter", edition, wire=other_wire, manner=manner)
        post.put("first", "q")
        self.assertEqual(post.hand("first", "giver", 0), ("unknown", wire, "q" if wire == "name" else 2))
        got = post.hand("giver", "getter", 0)
        self.assertEqual(post.held("getter"), [] if got is None else [got])
        self.assertEqual(len(post.held("giver")), 1)
        return got

    def test_over_the_same_wire_to_a_house_that_knows_it(self):
        for manner in MANNERS:
            self.assertEqual(self.passed("name", "name", manner, edition_of("c q d")), "q")
            self.assertEqual(self.passed("name", "name", manner, edition_of("c d,q")), "d")
            self.assertEqual(self.passed("number", "number", manner, edition_of("c e")), "e")

    def test_over_the_same_wire_to_a_house_that_knows_it_not(self):
        for wire, what in (("name", "q"), ("number", 2)):
            edition = edition_of("c d", numbers=[3, 4])
            self.assertIsNone(self.passed(wire, wire, "refuse", edition))
            self.assertEqual(self.passed(wire, wire, "fall", edition), "c")
            self.assertEqual(self.passed(wire, wire, "keep", edition), ("unknown", wire, what))

    def test_over_another_wire(self):
        for manner in MANNERS:
            for edition in (edition_of("p q"), edition_of("c q,p", numbers=[2, 1])):
                self.assertIsNone(self.passed("name", "number", manner, edition))
                self.assertIsNone(self.passed("number", "name", manner, edition))

    def test_back_home(self):
        for wire, other_wire in ((one, other) for one in WIRES for other in WIRES):
            post = Post()
            post.add("home", edition_of("p q"), wire=wire)
            post.add("away", edition_of("a b", numbers=[11, 12]), wire=other_wire, manner="keep")
            post.put("home", "q")
            post.hand("home", "away", 0)
            self.assertEqual(post.hand("away", "home", 0), "q" if wire == other_wire else None)

    def test_to_itself(self):
        post = Post()
        post.add("first", edition_of("p q"))
        post.add("giver", edition_of("a b", numbers=[11, 12]), manner="keep")
        post.put("first", "p")
        post.hand("first", "giver", 0)
        self.assertEqual(post.hand("giver", "giver", 0), ("unknown", "number", 1))
        self.assertEqual(post.held("giver"), [("unknown", "number", 1)] * 2)

    def test_they_are_dropped_like_others(self):
        post = met("name", "keep")
        for at in (4, 5, 0):
            post.hand("giver", "getter", at)
        post.drop("getter", 1)
        self.assertEqual(post.held("getter"), ["d", ("unknown", "name", "f"), "a"])
        post.drop("getter", 1)
        self.assertEqual(post.held("getter"), ["d", "a"])


class Upgrades(unittest.TestCase):
    def keeping(self, wire, held):
        """A post with a house that holds members of getter(), and behind a + what it got of those of giver()."""
        post = met(wire, "keep")
        post.drop("getter", 0)
        for word in held.split():
            if word.startswith("+"):
                post.hand("giver", "getter", giver().names.index(word[1:]))
            else:
                post.put("getter", word)
        return post

    def test_members_are_told_by_the_name_to_which_theirs_leads(self):
        post = self.keeping("name", "a c d g a")
        edition = Edition([("d", ("a",), 5), ("h", ("c", "g"), 1), ("a" * 8, ("b",), 0), ("x", ("y",), 3)])
        self.assertIsNone(post.upgrade("getter", edition))
        self.assertEqual(post.held("getter"), ["d", "h", "d", "h", "d"])
        self.assertEqual(post.edition_of("getter"), edition)
        self.assertEqual(post.edition_of("giver"), giver())
        self.assertEqual(post.held("giver"), giver().names)

    def test_names_lead_not_aliases_or_numbers(self):
        post = Post()
        post.add("one", Edition([("a", ("b",), 1), ("c", (), 2)]))
        post.put("one", "b")
        post.put("one", "c")
        post.upgrade("one", Edition([("b", (), 1), ("d", ("a",), 2), ("c", (), 9)]))
        self.assertEqual(post.held("one"), ["d", "c"])

    def test_unknown_names_become_members(self):
        post = self.keeping("name", "+e a +f +e")
        e, f = ("unknown", "name", "e"), ("unknown", "name", "f")
        self.assertEqual(post.held("getter"), [e, "a", f, e])
        rows = [(name, getter()[name].aliases, getter()[name].number) for name in getter().names]
        post.upgrade("getter", Edition([*rows, ("h", ("e",), 6)]))
        self.assertEqual(post.held("getter"), ["h", "a", ("unknown", "name", "f"), "h"])
        post.upgrade("getter", Edition([("f", (), 9), *rows, ("e", ("h",), 6)]))
        self.assertEqual(post.held("getter"), ["e", "a", "f", "e"])

    def test_unknown_numbers_become_members(self):
        post = self.keeping("number", "+b d +f +b")
        held = [("unknown", "number", 2), "d", ("unknown", "number", 6), ("unknown", "number", 2)]
        post.hand("giver", "getter", 3)
        self.assertEqual(post.held("getter"), [*held, ("unknown", "number", 4)])
        rows = [("k", (), 6), ("g", ("x", "y"), 4), ("a", (), 5), ("c", ("b",), 1), ("d", (), 3)]
        post.upgrade("getter", Edition(rows))
        self.assertEqual(post.held("getter"), [held[0], "d", "k", held[3], "g"])
        post.upgrade("getter", Edition([("k", (), 2), ("d", ("x", "y", "g"), 4), ("a", (), 5), ("c", ("b",), 1)]))
        self.assertEqual(post.held("getter"), ["k", "d", "k", "k", "d"])

    def test_numbers_do_not_lead_members(self):
        post = Post()
        post.add("one", Edition([("a", (), 1), ("b", (), 2)]))
        post.put("one", "a")
        post.upgrade("one", Edition([("b", (), 1), ("a", (), 2)]))
        self.assertEqual(post.held("one"), ["a"])

    def test_an_unknown_name_is_no_number(self):
        post = Post()
        post.add("one", edition_of("a b"))
        post.add("other", edition_of("x"), wire="name", manner="keep")
        post.put("one", "b")
        post.hand("one", "other", 0)
        post.upgrade("other", edition_of("x y z"))
        self.assertEqual(post.held("other"), [("unknown", "name", "b")])
        post.upgrade("other", edition_of("x,b y z"))
        self.assertEqual(post.held("other"), ["x"])

    def test_the_wire_and_the_manner_stay(self):
        for wire in WIRES:
            for manner in MANNERS:
                post = met(wire, manner)
                edition = Edition([("g", ("x", "y"), -7), ("a", (), 5), ("c", ("b",), 1), ("d", (), 3), ("k", (), 8)])
                post.upgrade("getter", edition)
                what = "f" if wire == "name" else 6
                unknown = {"refuse": None, "fall": "g", "keep": ("unknown", wire, what)}[manner]
                self.assertEqual(post.hand("giver", "getter", 5), unknown)

    def test_the_same_edition(self):
        post = self.keeping("number", "a +b +a")
        held = post.held("getter")
        post.upgrade("getter", getter())
        self.assertEqual(post.held("getter"), held)

    def test_afterwards_members_are_handed_as_the_new_ones(self):
        post = Post()
        post.add("one", edition_of("a b"))
        post.add("number", edition_of("x", numbers=[0]), manner="keep")
        post.add("name", edition_of("x", numbers=[0]), wire="name", manner="keep")
        post.put("one", "a")
        post.upgrade("one", edition_of("b c,a", numbers=[5, 6]))
        self.assertEqual(post.hand("one", "number", 0), ("unknown", "number", 6))
        self.assertEqual(post.hand("one", "name", 0), ("unknown", "name", "c"))

    def test_editions_stay_as_they_are(self):
        one, other = giver(), getter()
        post = Post()
        post.add("a", one, manner="keep")
        post.add("b", other, wire="name", manner="fall")
        for name in one.names:
            post.put("a", name)
            post.hand("a", "b", len(post.held("a")) - 1)
        self.assertEqual([edition_text(one), edition_text(other)], [edition_text(giver()), edition_text(getter())])
        self.assertEqual([one, other], [giver(), getter()])
