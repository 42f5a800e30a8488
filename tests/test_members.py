"""Members of editions and sets of members."""

import unittest

from growlists.editions import Edition
from growlists.errors import NoNeighbour
from tests.samples import elder, newer, other_values


class Attributes(unittest.TestCase):
    def test_of_each_member(self):
        edition = Edition([("b", ("z", "x", "y"), -4), ("a", (), 10 ** 9)])
        told = [(one.name, one.aliases, one.number, one.place) for one in (edition["b"], edition["a"])]
        self.assertEqual(told, [("b", ("x", "y", "z"), -4, 0), ("a", (), 10 ** 9, 1)])

    def test_kinds_of_values(self):
        member = elder()["normal"]
        self.assertEqual([type(value) for value in (member.name, member.aliases, member.number, member.place)],
                         [str, tuple, int, int])
        self.assertTrue({"name", "aliases", "number", "place"} <= set(vars(member)))

    def test_by_alias_and_by_number_it_is_the_same(self):
        edition = elder()
        self.assertEqual([(one.name, one.place) for one in (edition["normal"], edition.numbered(5))], [("mid", 1)] * 2)
        self.assertTrue(edition["normal"] == edition.numbered(5) == edition["mid"])


class Order(unittest.TestCase):
    def test_before(self):
        edition = elder()
        told = [[edition[one].before(edition[other]) for other in edition.names] for one in edition.names]
        self.assertEqual(told, [[False, True, True], [False, False, True], [False, False, False]])
        self.assertIs(edition["low"].before(other=edition["mid"]), True)

    def test_before_goes_by_places_only(self):
        edition = Edition([("z", (), 9), ("a", (), 3)])
        self.assertEqual([edition["z"].before(edition["a"]), edition["a"].before(edition["z"])], [True, False])

    def test_next_and_previous(self):
        edition = elder()
        self.assertEqual([edition["low"].next().name, edition["mid"].next().name], ["mid", "high"])
        self.assertEqual([edition["high"].previous().name, edition["mid"].previous().name], ["mid", "low"])
        self.assertTrue(edition["low"].next() == edition["mid"])
        self.assertTrue(edition["low"].next().next().previous().previous() == edition["low"])

    def test_no_neighbour_at_the_ends(self):
        edition = elder()
        for take, name in ((edition["high"].next, "high"), (edition["low"].previous, "low"),
                           (edition["normal"].next().next, "high")):
            with self.assertRaises(NoNeighbour) as caught:
                take()
            self.assertEqual(caught.exception.name, name)

    def test_no_neighbour_of_a_lonely_member(self):
        member = Edition([("a", ("b",), 1)])["b"]
        for take in (member.next, member.previous):
            with self.assertRaises(NoNeighbour) as caught:
                take()
            self.assertEqual(caught.exception.name, "a")


class SameMember(unittest.TestCase):
    def test_of_equal_editions(self):
        one, other = elder(), elder()
        self.assertIs(one["mid"] == other["normal"], True)
        self.assertIs(one["mid"] != other["mid"], False)

    def test_other_members(self):
        self.assertIs(elder()["low"] == elder()["mid"], False)
        self.assertIs(elder()["low"] != elder()["mid"], True)

    def test_of_unequal_editions(self):
        self.assertIs(elder()["low"] == newer()["low"], False)
        one, other = Edition([("a", (), 1)]), Edition([("a", (), 1)], {"s": []})
        self.assertIs(one["a"] == other["a"], False)

    def test_any_other_value(self):
        member = newer()["low"]
        for value in [member.name, member.place, *other_values()]:
            with self.subTest():
                self.assertIs(member == value, False)
                self.assertIs(value == member, False)


def abc():
    return Edition([("c", (), 1), ("a", (), 2), ("b", ("d",), 3)],
                   {"ends": ["b", "c"], "firsts": ["a", "c"], "none": []})


class Operators(unittest.TestCase):
    def setUp(self):
        edition = abc()
        self.ends, self.firsts, self.none = [edition.group(name) for name in ("ends", "firsts", "none")]
        self.every = edition.everything()

    def test_names_in_the_order_of_the_edition(self):
        self.assertEqual([self.ends.names, self.firsts.names, self.none.names, self.every.names],
                         [["c", "b"], ["c", "a"], [], ["c", "a", "b"]])

    def test_or(self):
        self.assertEqual([(self.ends | self.firsts).names, (self.firsts | self.ends).names], [["c", "a", "b"]] * 2)
        self.assertEqual([(self.ends | self.none).names, (self.none | self.none).names], [["c", "b"], []])
        self.assertEqual((self.firsts - self.ends | self.ends - self.firsts).names, ["a", "b"])
        self.assertEqual((self.ends - self.firsts | self.firsts - self.ends).names, ["a", "b"])

    def test_and(self):
        made = [self.ends & self.firsts, self.every & self.ends, self.none & self.ends]
        self.assertEqual([group.names for group in made], [["c"], ["c", "b"], []])

    def test_but(self):
        made = [self.ends - self.firsts, self.firsts - self.ends, self.every - self.none]
        self.assertEqual([group.names for group in made], [["b"], ["a"], ["c", "a", "b"]])
        self.assertEqual([(self.ends - self.every).names, (self.none - self.ends).names], [[], []])

    def test_operators_change_nothing(self):
        for made in (self.ends | self.firsts, self.ends & self.firsts, self.ends - self.firsts):
            self.assertEqual([self.ends.names, self.firsts.names], [["c", "b"], ["c", "a"]])
            self.assertFalse(made is self.ends or made is self.firsts)

    def test_of_equal_editions(self):
        self.assertTrue((self.ends | abc().group("firsts")) == abc().everything())

    def test_len_and_bool(self):
        self.assertEqual([len(self.every), len(self.ends), len(self.none)], [3, 2, 0])
        self.assertEqual([bool(self.every), bool(self.ends), bool(self.none)], [True, True, False])
        self.assertIs(bool(self.ends & self.none), False)


class InGroup(unittest.TestCase):
    def test_members(self):
        edition = abc()
        ends = edition.group("ends")
        self.assertEqual([edition[name] in ends for name in ("c", "a", "b", "d")], [True, False, True, True])
        self.assertIs(edition["a"] in edition.group("none"), False)

    def test_members_of_equal_and_unequal_editions(self):
        self.assertIs(elder()["mid"] in elder().group("busy"), True)
        self.assertIs(newer()["mid"] in elder().group("busy"), False)
        self.assertIs(elder()["mid"] in newer().everything(), False)

    def test_any_other_value(self):
        every = newer().everything()
        for value in ["low", 0, 1, every, *other_values()]:
            with self.subTest():
                self.assertIs(value in every, False)


class SameGroup(unittest.TestCase):
    def test_equal(self):
        edition = abc()
        self.assertIs(edition.group("ends") == abc().group("ends"), True)
        self.assertIs(edition.group("ends") != abc().group("ends"), False)
        self.assertIs(edition.group("ends") | edition.group("firsts") == edition.everything(), True)
        self.assertIs(edition.group("none") == edition.everything() - edition.everything(), True)

    def test_other_members(self):
        edition = abc()
        self.assertIs(edition.group("ends") == edition.group("firsts"), False)
        self.assertIs(edition.group("ends") != edition.group("firsts"), True)
        self.assertIs(edition.group("none") == edition.group("firsts"), False)

    def test_of_unequal_editions(self):
        one, other = Edition([("a", (), 1)]), Edition([("a", (), 2)])
        self.assertIs(one.everything() == other.everything(), False)
        self.assertIs(one.everything() - one.everything() == other.everything() - other.everything(), False)

    def test_any_other_value(self):
        for group in (newer().everything(), newer().everything() - newer().everything()):
            for value in [group.names, *other_values()]:
                with self.subTest():
                    self.assertIs(group == value, False)
                    self.assertIs(value == group, False)


class OwnMethods(unittest.TestCase):
    def test_listed_methods_stand_in_the_classes_themselves(self):
        edition = elder()
        for one, words in ((edition, ["names", "sets", "__len__", "__contains__", "__getitem__", "numbered", "group",
                                      "everything", "__eq__"]),
                           (edition["low"], ["before", "__eq__", "next", "previous"]),
                           (edition.everything(), ["names", "__or__", "__and__", "__sub__", "__contains__", "__len__",
                                                   "__bool__", "__eq__"])):
            self.assertEqual([word for word in words if word not in vars(type(one))], [])
            self.assertEqual(type(one).__module__, "growlists.editions")
