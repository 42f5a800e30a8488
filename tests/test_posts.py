"""Posts: houses, what they hold, and which errors their methods raise."""

import unittest

from growlists.editions import Edition
from growlists.errors import BadName, BadWords, NameTaken, NoHouse, NoMember, NotHeld, NotNewer, TooFar
from growlists.posts import Post
from tests.samples import edition_of, elder, newer, other_values
from tests.test_bad_editions import BAD_NAMES

NOT_HELD = [*other_values(), 2, 3, -1, -2, 10 ** 59, -10 ** 59, "0", "1", [0], (0,), (1,), {0: 0}, None, True, False]
NOT_HELD = [value for value in NOT_HELD if type(value) is not int or value not in (0, 1)]


def stocked():
    """A post with three houses, of which "till" and "bin" hold two things."""
    post = Post()
    post.add("shop", newer(), wire="name")
    post.add("till", elder(), manner="keep")
    post.add("bin", elder(), wire="name", manner="fall")
    post.put("shop", "top")
    post.hand("shop", "till", 0)
    post.put("till", "normal")
    post.put("bin", "high")
    post.put("bin", "low")
    post.drop("shop", 0)
    return post


def told(post):
    """All that a post tells of its houses."""
    return [(name, post.edition_of(name), post.held(name)) for name in post.houses]


STOCK = [
    ("shop", newer(), []), ("till", elder(), [("unknown", "number", 12), "mid"]), ("bin", elder(), ["high", "low"]),
]
CALLS = 9


class Wrong(unittest.TestCase):
    def check(self, error, attribute, value, do):
        """Whether a call raises an error with this very value, changes nothing and is not recorded."""
        post = stocked()
        with self.assertRaises(error) as caught:
            do(post)
        self.assertTrue(type(caught.exception) is error)
        self.assertTrue(getattr(caught.exception, attribute) is value)
        self.assertEqual(told(post), STOCK)
        self.assertTrue(post == stocked())
        with self.assertRaises(TooFar) as caught:
            post.undo(100)
        self.assertEqual(caught.exception.count, CALLS)


class Houses(Wrong):
    def test_none_at_first(self):
        self.assertEqual(Post().houses, [])

    def test_in_the_sequence_in_which_they_were_added(self):
        post = Post()
        names = ["z", "till", "a", "shop", "abcdefgh", "b"]
        for at, name in enumerate(names):
            self.assertIsNone(post.add(name, elder()))
            self.assertEqual(post.houses, names[:at + 1])
            self.assertEqual(post.held(name), [])
        post.put("shop", "mid")
        post.upgrade("a", newer())
        post.hand("shop", "z", 0)
        self.assertEqual(post.houses, names)

    def test_lists_are_new(self):
        post = stocked()
        for take in (lambda: post.houses, lambda: post.held("till"), lambda: post.held("shop")):
            first = take()
            first.reverse()
            first.append("other")
            first.insert(0, "low")
            self.assertNotEqual(first, take())
        self.assertEqual(told(post), STOCK)

    def test_editions(self):
        post = stocked()
        self.assertEqual(post.edition_of("shop"), newer())
        self.assertEqual(post.edition_of("till"), elder())
        self.assertIsInstance(post.edition_of("bin"), Edition)

    def test_wires_and_manners(self):
        for wire in ("name", "number"):
            for manner in ("refuse", "fall", "keep"):
                post = Post()
                self.assertIsNone(post.add("a", elder(), wire=wire, manner=manner))
                self.assertEqual(told(post), [("a", elder(), [])])

    def test_what_is_left_out(self):
        post = Post()
        post.add("a", newer())
        post.add("b", elder())
        post.put("a", "top")
        self.assertIsNone(post.hand("a", "b", 0))
        post.add("c", elder(), manner="keep")
        self.assertEqual(post.hand("a", "c", 0), ("unknown", "number", 12))
        post.add("d", elder(), wire="name")
        self.assertIsNone(post.hand("a", "d", 0))
        one, other = Post(), Post()
        one.add("a", elder())
        other.add("a", elder(), wire="number", manner="refuse")
        self.assertTrue(one == other)

    def test_words_are_passed_by_name(self):
        self.assertRaises(TypeError, Post().add, "a", elder(), "name")
        self.assertRaises(TypeError, Post().add, "a", elder(), "name", "keep")


class WrongHouses(Wrong):
    def test_no_name(self):
        for value in [*BAD_NAMES, *[value for value in other_values() if value != "low"]]:
            self.check(BadName, "value", value, lambda post: post.add(value, elder()))
            self.check(BadName, "value", value, lambda post: post.add(value, elder(), wire=value, manner=value))

    def test_a_name_that_is_there(self):
        for name in ("shop", "till", "bin"):
            self.check(NameTaken, "name", name, lambda post: post.add(name, newer()))
            self.check(NameTaken, "name", name, lambda post: post.add(name, elder(), wire="wire", manner=None))

    def check_words(self, wire, manner):
        def do(post):
            with self.assertRaises(BadWords) as caught:
                post.add("next", elder(), wire=wire, manner=manner)
            value = caught.exception.value
            self.assertTrue(type(value) is tuple and len(value) == 2)
            self.assertTrue(value[0] is wire and value[1] is manner)
            raise caught.exception

        post = stocked()
        self.assertRaises(BadWords, do, post)
        self.assertEqual(told(post), STOCK)
        with self.assertRaises(TooFar) as caught:
            post.undo(100)
        self.assertEqual(caught.exception.count, CALLS)

    def test_no_words(self):
        words = ["names", "Name", "name ", "numbered", "number\n", "refused", "falls", "keeps", "Keep"]
        for value in [*words, ["name"], ("keep",), *other_values()]:
            for manner in ("refuse", "fall", "keep", "name", value):
                self.check_words(value, manner)
            for wire in ("name", "number", "keep"):
                self.check_words(wire, value)
        for word in ("refuse", "fall", "keep"):
            self.check_words(word, word)
        for word in ("name", "number"):
            self.check_words(word, word)

    def test_one_word_is_left_out(self):
        for value in ("keep", None, True, 1, ["name"]):
            with self.assertRaises(BadWords) as caught:
                Post().add("a", elder(), wire=value)
            self.assertEqual(caught.exception.value, (value, "refuse"))
        for value in ("number", None, True, 1, ["keep"]):
            with self.assertRaises(BadWords) as caught:
                Post().add("a", elder(), manner=value)
            self.assertEqual(caught.exception.value, ("number", value))

    def test_no_house(self):
        for value in [*BAD_NAMES, *other_values(), "shops", "Shop", "till ", "mid", ["till"], ("till",), {"till": 1}]:
            self.check(NoHouse, "value", value, lambda post: post.edition_of(value))
            self.check(NoHouse, "value", value, lambda post: post.held(value))
            self.check(NoHouse, "value", value, lambda post: post.put(value, "mid"))
            self.check(NoHouse, "value", value, lambda post: post.drop(value, 0))
            self.check(NoHouse, "value", value, lambda post: post.hand(value, "till", 0))
            self.check(NoHouse, "value", value, lambda post: post.hand("till", value, 0))
            self.check(NoHouse, "value", value, lambda post: post.upgrade(value, newer()))

    def test_no_house_goes_before_the_others(self):
        for value in ("shops", None, ["till"], True):
            self.check(NoHouse, "value", value, lambda post: post.put(value, "other"))
            self.check(NoHouse, "value", value, lambda post: post.put(value, None))
            self.check(NoHouse, "value", value, lambda post: post.drop(value, 9))
            self.check(NoHouse, "value", value, lambda post: post.drop(value, "low"))
            self.check(NoHouse, "value", value, lambda post: post.hand(value, "till", -1))
            self.check(NoHouse, "value", value, lambda post: post.hand("till", value, None))
            self.check(NoHouse, "value", value, lambda post: post.hand(value, "none", 0))
            self.check(NoHouse, "value", value, lambda post: post.hand(value, ("till",), "low"))
            self.check(NoHouse, "value", value, lambda post: post.upgrade(value, edition_of("x")))

    def test_a_post_without_houses(self):
        for do in (Post().edition_of, Post().held):
            self.assertRaises(NoHouse, do, "till")


class Put(Wrong):
    def test_names_and_aliases(self):
        post = Post()
        post.add("a", elder())
        held = []
        for word, name in (("low", "low"), ("normal", "mid"), ("high", "high"), ("mid", "mid"), ("low", "low")):
            self.assertIsNone(post.put("a", word))
            held.append(name)
            self.assertEqual(post.held("a"), held)

    def test_in_one_house_only(self):
        post = Post()
        post.add("a", elder())
        post.add("b", elder())
        post.put("b", "low")
        self.assertEqual([post.held("a"), post.held("b")], [[], ["low"]])

    def test_no_member(self):
        values = ["top", "busy", "Low", "lo", "low ", "mid\n", 1, 5, 12, ("unknown", "number", 12)]
        known = ("low", "mid", "normal", "high")
        for value in [*values, *other_values()]:
            if not isinstance(value, str) or value not in known:
                self.check(NoMember, "value", value, lambda post: post.put("till", value))

    def test_a_member_of_another_house(self):
        value = "top"
        self.check(NoMember, "value", value, lambda post: post.put("bin", value))
        post = stocked()
        post.put("shop", value)
        self.assertEqual(post.held("shop"), ["top"])


class Drop(Wrong):
    def test_each_position(self):
        for position, left in ((0, ["mid", "high"]), (1, ["low", "high"]), (2, ["low", "mid"])):
            post = Post()
            post.add("a", elder())
            post.add("b", elder())
            for name in ("low", "mid", "high"):
                post.put("a", name)
                post.put("b", name)
            self.assertIsNone(post.drop("a", position))
            self.assertEqual([post.held("a"), post.held("b")], [left, ["low", "mid", "high"]])

    def test_until_nothing_is_left(self):
        post = stocked()
        post.drop("till", 0)
        self.assertEqual(post.held("till"), ["mid"])
        post.drop("till", 0)
        self.assertEqual(post.held("till"), [])
        with self.assertRaises(NotHeld) as caught:
            post.drop("till", 0)
        self.assertEqual(caught.exception.position, 0)

    def test_equal_values(self):
        post = Post()
        post.add("a", elder())
        for name in ("low", "mid", "low", "mid"):
            post.put("a", name)
        post.drop("a", 2)
        self.assertEqual(post.held("a"), ["low", "mid", "mid"])

    def test_no_position(self):
        for value in NOT_HELD:
            self.check(NotHeld, "position", value, lambda post: post.drop("till", value))
            self.check(NotHeld, "position", value, lambda post: post.drop("bin", value))
        for value in (0, 1, *NOT_HELD):
            self.check(NotHeld, "position", value, lambda post: post.drop("shop", value))


class Handed(Wrong):
    def test_no_position(self):
        for value in NOT_HELD:
            self.check(NotHeld, "position", value, lambda post: post.hand("till", "bin", value))
            self.check(NotHeld, "position", value, lambda post: post.hand("bin", "bin", value))
        for value in (0, 1, *NOT_HELD):
            self.check(NotHeld, "position", value, lambda post: post.hand("shop", "till", value))


class Upgraded(Wrong):
    def test_not_newer(self):
        for edition, name in (
            (edition_of("low mid,normal", {"busy": []}), "high"), (edition_of("low mid high", {"busy": []}), "normal"),
            (edition_of("low mid,normal high"), "busy"), (edition_of("low mid,normal high", {"low": []}), "busy"),
            (edition_of("x"), "low"), (edition_of("normal high"), "low"), (edition_of("low,high normal"), "mid"),
        ):
            def do(post):
                with self.assertRaises(NotNewer) as caught:
                    post.upgrade("till", edition)
                self.assertEqual(caught.exception.name, name)
                raise caught.exception

            post = stocked()
            self.assertRaises(NotNewer, do, post)
            self.assertEqual(told(post), STOCK)
            self.assertTrue(post == stocked())
            self.assertRaises(TooFar, post.undo, CALLS + 1)
            post.undo(CALLS)

    def test_back_to_the_elder_edition(self):
        post = stocked()
        with self.assertRaises(NotNewer) as caught:
            post.upgrade("shop", elder())
        self.assertEqual(caught.exception.name, "top")
        self.assertEqual(told(post), STOCK)
