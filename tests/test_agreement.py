"""What is told of kinds agrees with what callers of these kinds answer."""

import random
import unittest

from growlists.callers import answer, is_caller, is_written_for, kinds_of, size_of
from growlists.editions import Edition
from growlists.keeping import is_evidence, kept
from growlists.newer import new_members
from growlists.pairs import reached
from growlists.safety import greatest, safe_fallbacks
from growlists.shortest import shortest
from tests.deeds import DEEDS
from tests.oracle import Both, random_editions, random_kinds, random_names
from tests.samples import elder, newer


class Writer:
    """Callers of some kinds."""

    def __init__(self, old, kinds, names, fallbacks):
        self.shapes = [deed for deed in DEEDS if deed[3] in kinds]
        if names is None:
            names = [word for name in old.names for word in (name, *old[name].aliases)]
        self.leaves = [("member", ("name", name)) for name in names]
        self.leaves += [("member", ("entry", name)) for name in fallbacks or {}]
        if "lookups" in kinds:
            self.leaves += [("member", ("numbered", old[name].number)) for name in old.names]
        if "sets" in kinds:
            self.leaves += [("set", ("set", name)) for name in old.sets]

    def of_size(self, size, sort):
        """All deeds of a size that tell a sort."""
        found = [leaf for told, leaf in self.leaves if size == 1 and told == sort]
        for told, word, parts, _ in self.shapes:
            if told == sort:
                found += [(word, *deeds) for deeds in self._parts(size - 1, parts)]
        return found

    def _parts(self, size, sorts):
        if not sorts:
            return [()] if size == 0 else []
        return [
            (one, *rest)
            for many in range(1, size - len(sorts) + 2)
            for one in self.of_size(many, sorts[0])
            for rest in self._parts(size - many, sorts[1:])
        ]

    def by_chance(self, chance, sort, depth):
        """A deed that tells a sort, None if none is found."""
        trials = [("leaf", leaf) for told, leaf in self.leaves if told == sort]
        trials += [deed for deed in self.shapes if deed[0] == sort and (depth or not deed[2])]
        chance.shuffle(trials)
        for trial in trials[:3]:
            if trial[0] == "leaf":
                return trial[1]
            deeds = [self.by_chance(chance, part, depth - 1) for part in trial[2]]
            if None not in deeds:
                return (trial[1], *deeds)
        return None


def case(seed, most_elder=4, most_new=2):
    """Editions, kinds, names and fallbacks."""
    chance = random.Random(seed)
    old, new = random_editions(chance, most_elder, most_new)
    fallbacks = {name: chance.choice(old.names) for name in new_members(old, new)}
    return old, new, random_kinds(chance), random_names(chance, old), chance.choice([None, fallbacks])


class Oracle(unittest.TestCase):
    def test_what_is_reached_and_kept(self):
        seen = {"kept": 0, "none": 0, "other": 0}
        for seed in range(500):
            old, new, kinds, names, fallbacks = case(seed, 3, 1)
            both = Both(old, new, [kind for kind in kinds if kind != "choices"], names, fallbacks)
            found = both.pairs_and_parts()
            given = reached(old, new, kinds, names=names, fallbacks=fallbacks)
            told = kept(old, new, kinds, names=names, fallbacks=fallbacks)
            with self.subTest(seed):
                if found is not None:
                    pairs = [(old.names[x], new.names[y]) for x, y in found[0]]
                    parts = [(tuple(old.names[x] for x in one), tuple(new.names[y] for y in other))
                             for one, other in found[1]]
                    found = (pairs, parts)
                    self.assertIs(is_evidence(old, new, kinds, found, names=names, fallbacks=fallbacks), told)
                self.assertEqual(given, found)
                self.assertIs(told, not both.differs())
            seen["kept" if told else "none" if found is None else "other"] += 1
        self.assertGreater(min(seen.values()), 100)

    def test_least_sizes(self):
        sizes = {}
        for seed in range(1000, 2000):
            old, new, kinds, names, fallbacks = case(seed, 3, 1)
            least = Both(old, new, kinds, names, fallbacks).least_size(6)
            found = shortest(old, new, kinds, names=names, fallbacks=fallbacks)
            with self.subTest(seed):
                self.assertEqual(None if found is None else size_of(found), least)
            sizes[least] = True
        self.assertLessEqual({None, 2, 3, 4}, set(sizes))


class Answers(unittest.TestCase):
    def alike(self, caller, old, new, fallbacks):
        return answer(caller, old, fallbacks=fallbacks) == answer(caller, new, fallbacks=fallbacks)

    def check(self, seed):
        """Whether all small callers, and some larger ones, answer alike where kinds are kept; how many there were."""
        old, new, kinds, names, fallbacks = case(seed)
        told = kept(old, new, kinds, names=names, fallbacks=fallbacks)
        found = shortest(old, new, kinds, names=names, fallbacks=fallbacks)
        writer = Writer(old, kinds, names, fallbacks)
        if told:
            self.assertIsNone(found)
        callers = [caller for size in (2, 3, 4) for sort in ("truth", "number", "text")
                   for caller in writer.of_size(size, sort)]
        if told:
            chance = random.Random(seed)
            callers += [writer.by_chance(chance, chance.choice(["truth", "number", "text"]), 5) for _ in range(40)]
        for caller in callers:
            if caller is not None and is_caller(caller) and not self.alike(caller, old, new, fallbacks):
                self.assertFalse(told, (seed, caller))
                self.assertIsNotNone(found, seed)
                self.assertLessEqual(size_of(found), size_of(caller))
        return told, len(callers)

    def test_callers_of_kinds(self):
        many = {True: 0, False: 0}
        for seed in range(2000, 2150):
            told, callers = self.check(seed)
            many[told] += callers
        self.assertGreater(min(many.values()), 1000)

    def test_the_shortest_caller(self):
        many = 0
        for seed in range(3000, 3400):
            old, new, kinds, names, fallbacks = case(seed)
            found = shortest(old, new, kinds, names=names, fallbacks=fallbacks, most=8)
            if found is not None:
                self.assertTrue(is_caller(found))
                self.assertLessEqual(set(kinds_of(found)), set(kinds))
                self.assertTrue(is_written_for(found, old))
                self.assertFalse(self.alike(found, old, new, fallbacks))
                self.assertFalse(kept(old, new, kinds, names=names, fallbacks=fallbacks))
                self.assertFalse(kept(old, new, kinds, fallbacks=fallbacks))
                many += 1
        self.assertGreater(many, 100)

    def test_greatest_choices(self):
        for seed in range(4000, 4060):
            old, new, kinds, names, fallbacks = case(seed)
            for chosen in greatest(old, new, kinds, names=names, fallbacks=fallbacks):
                self.assertTrue(kept(old, new, chosen, names=names, fallbacks=fallbacks))
                self.assertIsNone(shortest(old, new, chosen, names=names, fallbacks=fallbacks))

    def test_safe_fallbacks(self):
        for seed in range(5000, 5060):
            old, new, kinds, names, fallbacks = case(seed)
            safe = safe_fallbacks(old, new, kinds, names=names)
            if fallbacks is not None:
                self.assertIs(fallbacks in safe, kept(old, new, kinds, names=names, fallbacks=fallbacks))
            for leads in safe:
                self.assertIsNone(shortest(old, new, kinds, names=names, fallbacks=leads))

    def test_callers_of_the_kinds_that_are_kept(self):
        writer = Writer(elder(), ["sets", "all", "ends"], None, {"top": "high"})
        for size in (2, 3, 4):
            for caller in writer.of_size(size, "truth"):
                self.assertTrue(self.alike(caller, elder(), newer(), {"top": "high"}))

    def test_a_side_that_fails_under_a_choice(self):
        old = Edition([("a", (), 1), ("b", (), 2)])
        new = Edition([("a", (), 1), ("b", (), 2), ("n", (), 3)])
        caller = ("text", ("else", ("next", ("name", "b")), ("name", "a")))
        self.assertFalse(self.alike(caller, old, new, None))
        self.assertFalse(kept(old, new, ["text", "steps", "choices"]))
        self.assertEqual(size_of(shortest(old, new, ["text", "steps", "choices"])), 3)
