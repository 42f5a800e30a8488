"""Posts: undo, forks and equality; and posts by chance, beside another way to what they do."""

import random
import unittest

from growlists.editions import Edition
from growlists.errors import (
    BadName, BadWords, GrowError, NameTaken, NoHouse, NoMember, NotHeld, NotNewer, TooFar,
)
from growlists.posts import Post
from tests.plain_post import PlainPost, edition_by_chance, newer_by_chance
from tests.samples import edition_of, elder, newer, other_values
from tests.test_posts import told

# Calls that raise no error, one after the other.
STEPS = [
    lambda post: post.add("shop", newer(), wire="name"),
    lambda post: post.add("till", elder(), manner="keep"),
    lambda post: post.put("shop", "top"),
    lambda post: post.put("shop", "normal"),
    lambda post: post.hand("shop", "till", 0),
    # Nothing is taken here.
    lambda post: post.hand("till", "shop", 0),
    lambda post: post.put("till", "low"),
    lambda post: post.hand("shop", "till", 1),
    lambda post: post.drop("till", 1),
    lambda post: post.upgrade("till", newer()),
    # This one changes nothing.
    lambda post: post.upgrade("shop", newer()),
    lambda post: post.hand("till", "shop", 1),
    lambda post: post.drop("shop", 0),
    lambda post: post.hand("shop", "shop", 0),
]

# Calls that raise errors, whatever has been done before.
REFUSED = [
    lambda post: post.add("Shop", newer()),
    lambda post: post.add("new", newer(), wire="wire"),
    lambda post: post.add("new", newer(), manner=None),
    lambda post: post.put("none", "low"),
    lambda post: post.drop("none", 0),
    lambda post: post.hand("none", "till", 0),
    lambda post: post.upgrade("none", newer()),
    lambda post: post.undo(1000),
]

# Calls that raise errors once there are both houses.
REFUSED_LATER = [
    lambda post: post.add("shop", elder()),
    lambda post: post.put("till", "other"),
    lambda post: post.drop("shop", 9),
    lambda post: post.hand("shop", "till", True),
    lambda post: post.hand("shop", "none", 0),
    lambda post: post.upgrade("till", edition_of("a")),
]


class Told:
    """What a post told after each of its calls, with calls that are refused in between."""

    def __init__(self, steps=tuple(STEPS), refused=True):
        self.post = Post()
        self.states = [told(self.post)]
        for at, step in enumerate(steps):
            step(self.post)
            self.states.append(told(self.post))
            for call in [*REFUSED, *(REFUSED_LATER if at else [])] if refused else []:
                try:
                    call(self.post)
                except GrowError:
                    continue
                raise AssertionError("no error")


class Undo(unittest.TestCase):
    def test_of_each_number_of_calls(self):
        for refused in (True, False):
            for many in range(len(STEPS) + 1):
                made = Told(refused=refused)
                self.assertIsNone(made.post.undo(many))
                self.assertEqual(told(made.post), made.states[len(STEPS) - many])

    def test_of_none(self):
        post = Post()
        self.assertIsNone(post.undo(0))
        self.assertEqual(post.houses, [])

    def test_one_after_the_other(self):
        made = Told()
        for many in range(len(STEPS), 0, -1):
            self.assertEqual(told(made.post), made.states[many])
            made.post.undo(1)
        self.assertEqual(told(made.post), [])
        self.assertTrue(made.post == Post())

    def test_what_is_taken_back_is_recorded_no_more(self):
        made = Told()
        made.post.undo(3)
        made.post.undo(0)
        made.post.undo(2)
        self.assertEqual(told(made.post), made.states[len(STEPS) - 5])
        self.check_count(made.post, len(STEPS) - 5)
        made.post.undo(len(STEPS) - 5)
        self.check_count(made.post, 0)
        self.assertEqual(made.post.houses, [])

    def check_count(self, post, count):
        """Whether just so many calls are recorded."""
        before = told(post)
        for number in (count + 1, count + 2, count + 100, 10 ** 59):
            with self.assertRaises(TooFar) as caught:
                post.undo(number)
            self.assertTrue(type(caught.exception) is TooFar)
            self.assertTrue(type(caught.exception.count) is int)
            self.assertEqual(caught.exception.count, count)
            self.assertEqual(told(post), before)

    def test_too_many(self):
        self.check_count(Post(), 0)
        for many in range(len(STEPS) + 1):
            self.check_count(Told(STEPS[:many]).post, many)

    def test_a_hand_that_nothing_takes_is_recorded(self):
        made = Told(STEPS[:5])
        self.assertIsNone(made.post.hand("till", "shop", 0))
        self.check_count(made.post, 6)
        made.post.undo(1)
        self.check_count(made.post, 5)
        self.assertEqual(told(made.post), made.states[5])

    def test_what_asks_only_is_not_recorded(self):
        made = Told()
        post = made.post
        for _ in range(3):
            told(post)
            self.assertFalse(post.fork() == Post())
        self.check_count(post, len(STEPS))

    def test_going_on_after_an_undo(self):
        made = Told()
        made.post.undo(len(STEPS) - 4)
        for step in STEPS[4:]:
            step(made.post)
        self.assertEqual(told(made.post), made.states[-1])
        self.assertTrue(made.post == Told().post)
        made.post.undo(5)
        made.post.add("new", elder())
        self.check_count(made.post, len(STEPS) - 4)
        made.post.undo(2)
        self.assertEqual(told(made.post), made.states[len(STEPS) - 6])

    def test_an_added_house_goes_and_may_come_again(self):
        post = Post()
        post.add("a", elder())
        post.add("b", elder(), wire="name", manner="keep")
        post.undo(1)
        self.assertEqual(post.houses, ["a"])
        post.add("b", newer())
        self.assertEqual((post.houses, post.edition_of("b")), (["a", "b"], newer()))

    def test_an_upgrade(self):
        post = Post()
        post.add("a", edition_of("a b"))
        post.add("b", edition_of("c", numbers=[9]), manner="keep")
        post.put("a", "a")
        post.hand("a", "b", 0)
        post.upgrade("a", edition_of("b,a"))
        post.upgrade("b", edition_of("c d,e"))
        self.assertEqual((post.held("a"), post.held("b")), (["b"], ["c"]))
        post.undo(2)
        self.assertEqual((post.held("a"), post.held("b")), (["a"], [("unknown", "number", 1)]))
        self.assertEqual(post.edition_of("a"), edition_of("a b"))
        self.assertEqual(post.edition_of("b"), edition_of("c", numbers=[9]))


class Forks(unittest.TestCase):
    def test_equal_and_new(self):
        for many in range(len(STEPS) + 1):
            post = Told(STEPS[:many]).post
            fork = post.fork()
            self.assertIsInstance(fork, Post)
            self.assertFalse(fork is post)
            self.assertTrue(fork == post)
            self.assertEqual(told(fork), told(post))
            self.assertEqual(fork.houses, post.houses)

    def test_the_same_record(self):
        for many in range(len(STEPS) + 1):
            made = Told()
            fork = made.post.fork()
            fork.undo(many)
            self.assertEqual(told(fork), made.states[len(STEPS) - many])
            with self.assertRaises(TooFar) as caught:
                fork.undo(len(STEPS) - many + 1)
            self.assertEqual(caught.exception.count, len(STEPS) - many)
            self.assertEqual(told(made.post), made.states[-1])
            made.post.undo(len(STEPS))

    def test_each_goes_its_own_way(self):
        for at in range(2, len(STEPS)):
            made = Told(STEPS[:at])
            fork = made.post.fork()
            for step in STEPS[at:]:
                step(fork)
            self.assertEqual(told(made.post), made.states[at])
            for step in STEPS[at:]:
                step(made.post)
            self.assertTrue(fork == made.post)
            made.post.undo(at)
            self.assertEqual(told(fork), told(Told().post))
            fork.undo(len(STEPS))
            self.assertEqual(fork.houses, [])
            self.assertEqual(told(made.post), Told().states[len(STEPS) - at])

    def test_a_change_in_either_one(self):
        for changed in (0, 1):
            post = Told().post
            both = [post, post.fork()]
            before = told(post)
            both[changed].add("new", elder())
            both[changed].put("till", "top")
            both[changed].drop("shop", 0)
            both[changed].undo(1)
            self.assertEqual(told(both[1 - changed]), before)
            self.assertFalse(both[0] == both[1])

    def test_a_fork_of_a_fork(self):
        post = Told().post
        fork = post.fork().fork()
        post.undo(len(STEPS))
        self.assertEqual(told(fork), Told().states[-1])
        fork.undo(len(STEPS))
        self.assertTrue(fork == post)


class Same(unittest.TestCase):
    def post(self, *names, edition=elder, wire="number", manner="keep", held=("low",)):
        post = Post()
        for name in names:
            post.add(name, edition(), wire=wire, manner=manner)
            for value in held:
                post.put(name, value)
        return post

    def check(self, one, other, equal):
        self.assertIs(one == other, equal)
        self.assertIs(other == one, equal)
        self.assertIs(one != other, not equal)
        self.assertIs(other != one, not equal)

    def test_equal(self):
        self.check(Post(), Post(), True)
        self.check(self.post("a"), self.post("a"), True)
        post = self.post("a", "b")
        self.check(post, post, True)

    def test_houses_in_whatever_sequence(self):
        self.check(self.post("a", "b", "c"), self.post("c", "a", "b"), True)

    def test_each_single_difference(self):
        one = self.post("a", "b")
        self.check(one, self.post("a"), False)
        self.check(one, self.post("a", "b", "c"), False)
        self.check(one, self.post("a", "c"), False)
        self.check(one, self.post("a", "b", edition=newer), False)
        self.check(one, self.post("a", "b", wire="name"), False)
        self.check(one, self.post("a", "b", manner="fall"), False)
        self.check(one, self.post("a", "b", manner="refuse"), False)
        self.check(one, self.post("a", "b", held=()), False)
        self.check(one, self.post("a", "b", held=("mid",)), False)
        self.check(one, self.post("a", "b", held=("low", "low")), False)
        self.check(self.post("a", held=("low", "mid")), self.post("a", held=("mid", "low")), False)
        self.check(Post(), self.post("a"), False)

    def test_a_difference_in_one_house(self):
        for change in (
            lambda post: post.put("b", "mid"), lambda post: post.drop("b", 0), lambda post: post.upgrade("b", newer()),
            lambda post: post.hand("a", "b", 0), lambda post: post.add("c", elder()),
        ):
            one, other = self.post("a", "b"), self.post("b", "a")
            change(one)
            self.check(one, other, False)
            change(other)
            self.check(one, other, True)

    def test_whose_house_holds_what(self):
        one, other = self.post("a", "b", held=()), self.post("a", "b", held=())
        one.put("a", "low")
        other.put("b", "low")
        self.check(one, other, False)

    def test_unknown_values(self):
        posts = []
        for word, wire, number in (("z", "name", 40), ("y", "name", 40), ("z", "number", 40), ("z", "number", 41)):
            post = Post()
            post.add("a", edition_of(word, numbers=[number]))
            post.add("b", elder(), wire=wire, manner="keep")
            post.put("a", word)
            post.hand("a", "b", 0)
            post.drop("a", 0)
            posts.append(post)
        self.assertEqual([post.held("b")[0][2] for post in posts], ["z", "y", 40, 41])
        for at, one in enumerate(posts):
            for place, other in enumerate(posts):
                self.check(one, other, at == place)

    def test_editions_are_equal_not_the_same(self):
        one, other = Post(), Post()
        one.add("a", Edition([("a", ("x", "y"), 1)], {"s": ["a"], "t": ()}))
        other.add("a", Edition((("a", ("y", "x"), 1),), {"t": [], "s": ("a",)}))
        self.check(one, other, True)

    def test_not_by_their_record(self):
        one, other = self.post("a"), self.post("a", held=())
        other.put("a", "mid")
        other.drop("a", 0)
        other.put("a", "low")
        self.check(one, other, True)
        one.put("a", "high")
        one.undo(1)
        self.check(one, other, True)
        one.upgrade("a", newer())
        other.undo(4)
        other.add("a", newer(), manner="keep")
        other.put("a", "low")
        self.check(one, other, True)
        with self.assertRaises(TooFar) as caught:
            one.undo(9)
        self.assertEqual(caught.exception.count, 3)

    def test_any_other_value(self):
        for post in (Post(), self.post("a")):
            for value in [*other_values(), ["a"], {"a": elder()}, post.houses]:
                self.check(post, value, False)


class ByChance(unittest.TestCase):
    """Posts beside plain ones, by right and wrong calls."""

    def call(self, chance, plain):
        """The name and the arguments of a call, right ones and wrong ones."""
        def one_of(right, wrong, many):
            return chance.choice(right) if chance.random() < many else chance.choice(wrong)

        one, other = [one_of(plain.houses() or ["a"], ["none", "", None, 1, ("a",)], 0.95) for _ in "ab"]
        edition = plain.edition_of(one) if one in plain.houses() else elder()
        position = one_of([0, 0, 0, 1, 1, 2, 3], [-1, 5, True, None, "0"], 0.9)
        word = chance.choice(["add", "drop", "upgrade", "undo", "fork", *["put"] * 3, *["hand"] * 4])
        if word == "add":
            words = {"wire": chance.choice(["name", "number"]), "manner": chance.choice(["refuse", "fall", "keep"])}
            name = one_of("abcdef", ["A", 3, ""], 0.95)
            words = one_of([words], [{"wire": "keep"}, {"manner": "name"}], 0.95)
            return word, (name, edition_by_chance(chance)), words
        if word == "put":
            return word, (one, chance.choice([*edition.names * 3, *"abcdefghijklmno", None, 1])), {}
        if word == "drop":
            return word, (one, position), {}
        if word == "hand":
            return word, (one, other, position), {}
        if word == "upgrade":
            return word, (one, one_of([newer_by_chance(chance, edition)], [edition_by_chance(chance)], 0.7)), {}
        return word, (chance.choice([0, 1, 1, 1, 2, 2, 3, 90]),) if word == "undo" else (), {}

    def outcome(self, post, word, given, more):
        """What a call returns, or which error it raises with what."""
        try:
            return getattr(post, word)(*given, **more)
        except GrowError as error:
            return type(error), vars(error)

    def check(self, post, plain):
        self.assertEqual(post.houses, plain.houses())
        for name in plain.houses():
            self.assertEqual(post.edition_of(name), plain.edition_of(name))
            self.assertEqual(post.held(name), plain.held(name))

    def run_one(self, seed, seen):
        chance = random.Random(seed)
        posts = [(Post(), PlainPost())]
        for name in "abc":
            edition = edition_by_chance(chance)
            words = {"wire": chance.choice(["name", "number"]), "manner": chance.choice(["refuse", "fall", "keep"])}
            for made in posts[0]:
                made.add(name, edition, **words)
                for member in edition.names:
                    made.put(name, member)
        for _ in range(60):
            post, plain = chance.choice(posts)
            word, given, more = self.call(chance, plain)
            if word == "fork":
                posts.append((post.fork(), plain.fork()))
            else:
                one, other = self.outcome(post, word, given, more), self.outcome(plain, word, given, more)
                self.assertEqual(one, other, (seed, word, given, more))
                kind = one[0] if isinstance(one, tuple) and isinstance(one[0], type) else type(one)
                seen[word, kind] = seen.get((word, kind), 0) + 1
            for pair in posts:
                self.check(*pair)
        for one, plain in posts:
            for other, other_plain in posts:
                self.assertIs(one == other, plain.all_told() == other_plain.all_told())

    def test_posts(self):
        seen = {}
        for seed in range(300):
            self.run_one(seed, seen)
        for error, words in (
            (NoHouse, "put drop hand upgrade"), (NotHeld, "drop hand"), (NoMember, "put"), (NotNewer, "upgrade"),
            (BadName, "add"), (NameTaken, "add"), (BadWords, "add"), (TooFar, "undo"),
            (type(None), "add put drop hand upgrade undo"), (str, "hand"), (tuple, "hand"),
        ):
            for word in words.split():
                self.assertGreater(seen[word, error], 20, (word, error))
