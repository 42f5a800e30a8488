"""Rows of houses: through, lost_on and losing_row."""

import itertools
import random
import unittest

from growlists.editions import Edition
from growlists.errors import BadRow, NoHouse, NoMember
from growlists.posts import Post
from growlists.rows import losing_row, lost_on, through
from tests.plain_post import edition_by_chance, newer_by_chance
from tests.samples import edition_of, elder, newer, other_values
from tests.test_posts import told


def example():
    """The post of the document, and two houses more."""
    post = Post()
    post.add("shop", newer())
    post.add("till", elder(), manner="keep")
    post.add("bin", elder(), manner="fall")
    post.add("desk", elder())
    post.add("mail", elder(), wire="name", manner="keep")
    return post


def handed_on(post, row, name):
    """What the last house of a row gets, by handing it from house to house in a fork."""
    trial = post.fork()
    trial.put(row[0], name)
    got = trial.held(row[0])[-1]
    for giver, getter in zip(row, row[1:]):
        got = trial.hand(giver, getter, len(trial.held(giver)) - 1)
        if got is None:
            return None
    return got


def not_back(post, row):
    """The members that do not come back, likewise."""
    first, last = post.edition_of(row[0]), post.edition_of(row[-1])
    lost = []
    for name in first.names:
        got = handed_on(post, row, name)
        if not isinstance(got, str) or name not in (got, *last[got].aliases):
            lost.append(name)
    return lost


def first_losing_row(post, first, most):
    """The first one of the shortest rows on which members do not come back, by trying all of them."""
    for many in range(most - 1):
        for middle in itertools.product(post.houses, repeat=many):
            if not_back(post, [first, *middle, first]):
                return [first, *middle, first]
    return None


class Through(unittest.TestCase):
    def test_two_houses(self):
        post = example()
        for row, top, normal in (
            (["shop", "till"], ("unknown", "number", 12), "mid"), (["shop", "bin"], "low", "mid"),
            (["shop", "desk"], None, "mid"), (["shop", "mail"], ("unknown", "name", "top"), "mid"),
            (["shop", "shop"], "top", "mid"),
        ):
            with self.subTest(row):
                self.assertEqual(through(post, row, "top"), top)
                self.assertEqual(through(post, row, "normal"), normal)
                self.assertEqual(through(post, row, "mid"), normal)

    def test_unknown_values_that_come_back(self):
        post = example()
        self.assertEqual(through(post, ["shop", "till", "shop"], "top"), "top")
        self.assertEqual(through(post, ["shop", "till", "till", "till", "shop"], "top"), "top")
        self.assertEqual(through(post, ["shop", "till", "bin", "shop"], "top"), "low")
        self.assertIsNone(through(post, ["shop", "till", "mail"], "top"))
        self.assertIsNone(through(post, ["shop", "mail", "shop"], "top"))
        self.assertEqual(through(post, ["shop", "mail", "mail"], "top"), ("unknown", "name", "top"))
        post.add("back", newer(), wire="name")
        self.assertEqual(through(post, ["shop", "mail", "back"], "top"), "top")

    def test_refused_on_the_way(self):
        post = example()
        for row in (
            ["shop", "desk", "shop"], ["shop", "till", "desk", "shop"], ["shop", "till", "mail", "till", "shop"],
            ["shop", "desk", "bin"], ["shop", "desk", "till"], ["shop", "mail", "till", "bin"],
        ):
            self.assertIsNone(through(post, row, "top"))
            self.assertEqual(through(post, row, "high"), "high")

    def test_eight_houses(self):
        post = example()
        row = ["shop", "till", "till", "till", "till", "till", "till", "shop"]
        self.assertEqual(through(post, row, "top"), "top")
        self.assertEqual(through(post, ["shop"] * 8, "top"), "top")
        self.assertEqual(through(post, [*row[:7], "bin"], "top"), "low")
        self.assertIsNone(through(post, ["shop", "desk", *row[2:]], "top"))
        self.assertEqual(lost_on(post, row), [])
        self.assertEqual(lost_on(post, ["shop", "desk", *row[2:]]), ["top"])

    def test_names_aliases_and_numbers(self):
        post = Post()
        post.add("one", Edition([("a", ("x",), 1), ("b", (), 2), ("c", (), 3)]), wire="name")
        post.add("other", Edition([("c", ("a",), 2), ("x", (), 1), ("d", (), 7)]), wire="name")
        post.add("third", Edition([("p", (), 1), ("q", (), 2)]))
        self.assertEqual(through(post, ["one", "other"], "a"), "c")
        self.assertEqual(through(post, ["one", "other"], "x"), "c")
        self.assertIsNone(through(post, ["one", "other"], "b"))
        self.assertEqual(through(post, ["one", "third"], "x"), "p")
        self.assertEqual(through(post, ["one", "other", "third"], "a"), "q")
        self.assertEqual(through(post, ["other", "one"], "a"), "c")
        self.assertEqual(through(post, ["other", "one"], "x"), "a")

    def test_after_an_upgrade(self):
        post = Post()
        post.add("one", edition_of("a b"), wire="name")
        post.add("other", edition_of("x", numbers=[40]), wire="name", manner="keep")
        row = ["one", "other"]
        self.assertEqual(through(post, row, "b"), ("unknown", "name", "b"))
        post.upgrade("other", edition_of("x y,b", numbers=[40, 41]))
        self.assertEqual(through(post, row, "b"), "y")
        post.upgrade("one", edition_of("b,a"))
        self.assertEqual(through(post, row, "a"), "y")
        post.undo(2)
        self.assertEqual(through(post, row, "b"), ("unknown", "name", "b"))


class LostOn(unittest.TestCase):
    def test_the_example(self):
        post = example()
        for row, lost in (
            (["shop", "bin", "till", "shop"], ["top"]), (["shop", "till", "shop"], []),
            (["shop", "desk", "shop"], ["top"]), (["shop", "mail", "shop"], ["top"]),
            (["till", "shop", "till"], []), (["shop", "shop"], []),
        ):
            self.assertEqual(lost_on(post, row), lost)

    def test_rows_that_end_elsewhere(self):
        post = example()
        self.assertEqual(lost_on(post, ["shop", "till"]), ["top"])
        self.assertEqual(lost_on(post, ["till", "shop"]), [])
        self.assertEqual(lost_on(post, ["till", "mail"]), [])

    def test_in_the_order_of_the_first_house(self):
        post = Post()
        post.add("one", edition_of("e c a d b"))
        post.add("other", edition_of("d e", numbers=[4, 9]), wire="name")
        self.assertEqual(lost_on(post, ["one", "other"]), ["c", "a", "b"])
        post.add("none", edition_of("z", numbers=[50]))
        self.assertEqual(lost_on(post, ["one", "none"]), ["e", "c", "a", "d", "b"])

    def test_a_name_that_is_an_alias_at_the_end(self):
        post = Post()
        post.add("one", Edition([("a", (), 1), ("b", (), 2), ("c", (), 3)]))
        post.add("other", Edition([("x", ("a",), 1), ("c", ("y",), 2), ("d", ("b",), 3)]))
        self.assertEqual(lost_on(post, ["one", "other"]), ["b", "c"])
        self.assertEqual(lost_on(post, ["other", "one"]), ["x", "c", "d"])

    def test_an_alias_at_the_start_does_not_count(self):
        post = Post()
        post.add("one", Edition([("a", ("b",), 1)]))
        post.add("other", Edition([("b", (), 1)]))
        self.assertEqual(lost_on(post, ["one", "other"]), ["a"])
        self.assertEqual(lost_on(post, ["other", "one"]), [])

    def test_a_fall_to_the_right_member(self):
        post = Post()
        post.add("one", Edition([("a", (), 1), ("b", (), 2)]))
        post.add("other", Edition([("a", (), 7)]), manner="fall")
        self.assertEqual(lost_on(post, ["one", "other"]), ["b"])
        self.assertEqual(through(post, ["one", "other"], "a"), "a")

    def test_an_unknown_value_is_no_member(self):
        post = Post()
        post.add("one", edition_of("a b"))
        post.add("other", edition_of("c", numbers=[9]), wire="name", manner="keep")
        self.assertEqual(lost_on(post, ["one", "other"]), ["a", "b"])

    def test_lists_are_new(self):
        post = example()
        for row in (["shop", "desk"], ["desk", "shop"]):
            told_first = lost_on(post, row)
            told_first.append("other")
            self.assertNotEqual(lost_on(post, row), told_first)


class LosingRow(unittest.TestCase):
    def test_the_example(self):
        post = example()
        self.assertEqual(losing_row(post, "shop"), ["shop", "bin", "shop"])
        for name in ("till", "bin", "desk", "mail"):
            self.assertIsNone(losing_row(post, name))

    def test_of_several_the_first_one_in_the_sequence_of_the_houses(self):
        for names in itertools.permutations(["bin", "desk", "mail", "till", "shop"]):
            post = Post()
            for name in names:
                manner = {"bin": "fall", "till": "keep", "mail": "keep"}.get(name, "refuse")
                wire = "name" if name == "mail" else "number"
                post.add(name, newer() if name == "shop" else elder(), wire=wire, manner=manner)
            first = [name for name in names if name in ("bin", "desk", "mail")][0]
            self.assertEqual(losing_row(post, "shop"), ["shop", first, "shop"])

    def test_each_most(self):
        post = Post()
        post.add("shop", newer())
        post.add("till", elder(), manner="keep")
        self.assertIsNone(losing_row(post, "shop", most=2))
        self.assertIsNone(losing_row(post, "shop", most=5))
        # What the till keeps by its number cannot be written for a house with names.
        post.add("mail", newer(), wire="name")
        row = ["shop", "till", "mail", "shop"]
        for most, told_row in ((2, None), (3, None), (4, row), (5, row)):
            self.assertEqual(losing_row(post, "shop", most=most), told_row)
        self.assertEqual(losing_row(post, "shop"), row)
        for most, told_row in ((2, None), (3, ["mail", "till", "mail"]), (4, ["mail", "till", "mail"])):
            self.assertEqual(losing_row(post, "mail", most=most), told_row)

    def test_five_houses(self):
        post = Post()
        # Over numbers "far" falls to b, whose name "away" keeps and cannot write for "far"; "home" knows it.
        post.add("far", Edition([("b", (), 3)]), manner="fall")
        post.add("home", Edition([("a", ("b",), 1)]), wire="name")
        post.add("away", Edition([("a", (), 2)]), wire="name", manner="keep")
        for most in (2, 3, 4):
            self.assertIsNone(losing_row(post, "home", most=most))
        self.assertIsNone(losing_row(post, "home"))
        row = ["home", "far", "away", "far", "home"]
        self.assertEqual(losing_row(post, "home", most=5), row)
        self.assertEqual(lost_on(post, row), ["a"])

    def test_several_rows_of_four_houses(self):
        for names in itertools.permutations(["shop", "till", "case", "mail", "desk"]):
            post = Post()
            for name in names:
                keeps = name in ("till", "case")
                wire = "name" if name in ("mail", "desk") else "number"
                post.add(name, elder() if keeps else newer(), wire=wire, manner="keep" if keeps else "refuse")
            keeper = [name for name in names if name in ("till", "case")][0]
            namer = [name for name in names if name in ("mail", "desk")][0]
            self.assertEqual(losing_row(post, "shop"), ["shop", keeper, namer, "shop"])
            self.assertEqual(losing_row(post, "shop", most=5), ["shop", keeper, namer, "shop"])
            self.assertIsNone(losing_row(post, "shop", most=3))

    def test_alone(self):
        post = Post()
        post.add("a", elder(), wire="name")
        for most in (2, 3, 4, 5):
            self.assertIsNone(losing_row(post, "a", most=most))

    def test_somewhat_more(self):
        post = Post()
        post.add("shop", newer())
        post.add("till", elder(), manner="keep")
        self.assertIsNone(losing_row(post, "shop", most=8))

    def test_lists_are_new(self):
        post = example()
        losing_row(post, "shop").append("other")
        self.assertEqual(losing_row(post, "shop"), ["shop", "bin", "shop"])

    def test_most_is_passed_by_name(self):
        self.assertRaises(TypeError, losing_row, example(), "shop", 4)


class Wrong(unittest.TestCase):
    def check(self, error, value, do):
        post = example()
        post.put("shop", "top")
        post.hand("shop", "till", 0)
        before = told(post)
        with self.assertRaises(error) as caught:
            do(post)
        self.assertTrue(type(caught.exception) is error)
        self.assertTrue(caught.exception.value is value)
        self.assertEqual(told(post), before)

    def wrong_rows(self):
        return [
            *other_values(), [], ["shop"], ["shop"] * 9, ["shop", "till"] * 5, ("shop", "till"), "shop",
            {"shop": "till"}, ["shop", "none"], ["none", "shop"], ["shop", "none", "shop"], ["shop", "Till"],
            ["shop", ""], ["shop", "till "],
            ["shop", None], ["shop", True], [0, 1], ["shop", ["till"]], [["shop", "till"]], ["shop", ("till",)],
            ["shop", {"till": 1}], ["shop", elder()], ["shop", "till", "low"], ["shop"] * 7 + ["none"], ["none"] * 2,
        ]

    def test_rows(self):
        for row in self.wrong_rows():
            for name in ("low", "other", None):
                self.check(BadRow, row, lambda post: through(post, row, name))
            self.check(BadRow, row, lambda post: lost_on(post, row))

    def test_names(self):
        known = ("low", "mid", "normal", "high", "top")
        names = ["lo", "Low", "busy", 1, 12, ("top",), ["top"], ("unknown", "number", 12), *other_values()]
        for name in names:
            if not isinstance(name, str) or name not in known:
                self.check(NoMember, name, lambda post: through(post, ["shop", "till"], name))
        name = "top"
        for row in (["till", "shop"], ["bin", "shop", "shop"], ["desk"] * 8):
            self.check(NoMember, name, lambda post: through(post, row, name))

    def test_houses(self):
        for name in ["none", "Shop", "shop ", ["shop"], ("shop",), {"shop": 1}, *other_values()]:
            for most in (2, 4, 5):
                self.check(NoHouse, name, lambda post: losing_row(post, name, most=most))

    def test_a_post_without_houses(self):
        row = ["shop", "till"]
        with self.assertRaises(BadRow) as caught:
            lost_on(Post(), row)
        self.assertTrue(caught.exception.value is row)
        with self.assertRaises(NoHouse):
            losing_row(Post(), "shop")


class ByChance(unittest.TestCase):
    def post_by_chance(self, chance):
        post = Post()
        edition = edition_by_chance(chance)
        for name in chance.sample(["a", "b", "c", "d", "e"], chance.randint(1, 5)):
            wire, manner = chance.choice(["name", "number"]), chance.choice(["refuse", "fall", "keep", "keep"])
            own = chance.choice([edition, edition, newer_by_chance(chance, edition), edition_by_chance(chance)])
            post.add(name, own, wire=wire, manner=manner)
            for member in own.names:
                post.put(name, member)
        return post

    def test_rows(self):
        seen = set()
        for seed in range(300):
            chance = random.Random(seed)
            post = self.post_by_chance(chance)
            before, record = told(post), post.fork()
            for _ in range(6):
                row = [chance.choice(post.houses) for _ in range(chance.randint(2, 8))]
                given = list(row)
                edition = post.edition_of(row[0])
                for name in edition.names:
                    for word in (name, *edition[name].aliases):
                        got = through(post, row, word)
                        self.assertEqual(got, handed_on(post, row, name), (seed, row, word))
                        seen.add(type(got))
                self.assertEqual(lost_on(post, row), not_back(post, row), (seed, row))
                self.assertEqual(row, given)
            self.assertEqual(told(post), before)
            self.assertTrue(post == record)
            record.undo(len(before) + sum(len(held) for _, _, held in before))
            self.assertEqual(record.houses, [])
            post.undo(len(before) + sum(len(held) for _, _, held in before))
            self.assertEqual(post.houses, [])
        self.assertEqual(seen, {str, tuple, type(None)})

    def test_losing_rows(self):
        seen = {}
        for seed in range(1000, 1250):
            chance = random.Random(seed)
            post = self.post_by_chance(chance)
            before = told(post)
            for first in post.houses:
                for most in (2, 3, 4, 5) if len(post.houses) < 4 else (2, 3, 4):
                    row = first_losing_row(post, first, most)
                    self.assertEqual(losing_row(post, first, most=most), row, (seed, first, most))
                    seen[len(row or [])] = seen.get(len(row or []), 0) + 1
                self.assertEqual(losing_row(post, first), losing_row(post, first, most=4))
            self.assertEqual(told(post), before)
        self.assertLessEqual({0, 3, 4}, set(seen))
        self.assertNotIn(2, seen)
