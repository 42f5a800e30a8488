"""What the modules tell agrees over the whole program."""

import random
import unittest

from growlists.callers import answer, is_caller, is_written_for, kinds_of, size_of
from growlists.errors import NotNewer
from growlists.keeping import is_evidence, kept
from growlists.later import is_later, lasts
from growlists.newer import lost_name, new_members
from growlists.pairs import reached
from growlists.posts import Post
from growlists.rows import losing_row, lost_on, through
from growlists.safety import greatest, safe_fallbacks
from growlists.shortest import shortest
from growlists.texts import edition_text, read_edition
from tests.growth import caller_by_chance, edition_by_chance, later_editions, rule_by_chance
from tests.oracle import SEEING, is_right_list, random_editions, random_kinds, random_names
from tests.test_agreement import Writer, case

SORTS = ("truth", "number", "text")
WIRES = ("name", "number")
MANNERS = ("refuse", "fall", "keep")


def callers_of(old, kinds, names, fallbacks, chance):
    """All small callers of some kinds, and some larger ones."""
    writer = Writer(old, kinds, names, fallbacks)
    found = [caller for size in (2, 3) for sort in SORTS for caller in writer.of_size(size, sort)]
    found += [writer.by_chance(chance, chance.choice(SORTS), 3) for _ in range(40)]
    return [caller for caller in found if caller is not None and is_caller(caller)]


class Kept(unittest.TestCase):
    def test_callers_of_kinds_that_are_kept_answer_alike(self):
        many = {True: 0, False: 0}
        for seed in range(7000, 7150):
            old, new, kinds, names, fallbacks = case(seed)
            if kept(old, new, kinds, names=names, fallbacks=fallbacks):
                for caller in callers_of(old, kinds, names, fallbacks, random.Random(seed)):
                    one, other = (answer(caller, edition, fallbacks=fallbacks) for edition in (old, new))
                    self.assertEqual(one, other, (seed, caller))
                    many[fallbacks is not None] += 1
        self.assertGreater(min(many.values()), 500)

    def test_between_an_edition_and_its_text(self):
        for seed in range(40):
            chance = random.Random(seed)
            edition = edition_by_chance(chance)
            for _ in range(5):
                kinds = random_kinds(chance)
                read = read_edition(edition_text(edition))
                self.assertIs(kept(edition, read, kinds), True)
                self.assertIs(kept(read, edition, kinds, fallbacks={}), True)
                self.assertIsNone(shortest(edition, read, kinds))
                self.assertEqual(greatest(edition, read, kinds), [kinds])


class Lasting(unittest.TestCase):
    def cases(self, seeds):
        for seed in seeds:
            chance = random.Random(seed)
            edition = edition_by_chance(chance, 3, 2)
            yield edition, rule_by_chance(chance, edition), caller_by_chance(chance, edition, 8)

    def test_a_caller_that_lasts_answers_alike_in_every_later_edition(self):
        lasting = 0
        for edition, rule, caller in self.cases(range(250)):
            if lasts(edition, caller, rule) is None:
                lasting += 1
                told = answer(caller, edition)
                for many in (0, 1, 2):
                    for later in later_editions(edition, rule, many):
                        self.assertIs(is_later(edition, later, rule), True)
                        self.assertEqual(answer(caller, later), told)
        self.assertGreater(lasting, 50)

    def test_what_is_found_is_a_newer_edition_that_keeps_not_all_kinds(self):
        found = 0
        for edition, rule, caller in self.cases(range(1000, 1600)):
            later = lasts(edition, caller, rule)
            kinds = kinds_of(caller)
            if later is None:
                continue
            self.assertIsNone(lost_name(edition, later))
            self.assertEqual(len(new_members(edition, later)), len(later) - len(edition))
            if is_right_list(kinds) and len(kinds) <= 6 and len(later) <= 6:
                found += 1
                self.assertTrue(is_written_for(caller, edition))
                self.assertIs(kept(edition, later, kinds), False)
                least = shortest(edition, later, kinds, most=8)
                self.assertTrue(least is None or size_of(least) <= size_of(caller))
                if size_of(caller) <= 8:
                    self.assertIsNotNone(least)
        self.assertGreater(found, 100)

    def test_the_shortest_caller_does_not_last(self):
        found = 0
        for seed in range(2000, 2150):
            chance = random.Random(seed)
            edition = edition_by_chance(chance, 3, 2)
            rule = rule_by_chance(chance, edition)
            later = chance.choice(list(later_editions(edition, rule, chance.choice([1, 2]))))
            caller = shortest(edition, later, random_kinds(chance))
            if caller is not None:
                found += 1
                other = lasts(edition, caller, rule)
                self.assertLessEqual(len(other), len(later))
                self.assertNotEqual(answer(caller, other), answer(caller, edition))
        self.assertGreater(found, 50)

    def test_a_wider_rule(self):
        for edition, rule, caller in self.cases(range(3000, 3300)):
            one, other = lasts(edition, caller, rule), lasts(edition, caller, ("any", edition.sets))
            if one is not None:
                self.assertLessEqual(len(other), len(one))
                self.assertIs(is_later(edition, one, ("any", edition.sets)), True)


class Handing(unittest.TestCase):
    def test_houses_of_equal_editions_hand_back_everything(self):
        for seed in range(60):
            chance = random.Random(seed)
            edition = edition_by_chance(chance)
            post = Post()
            for name in ("a", "b", "c", "d"):
                own = chance.choice([edition, read_edition(edition_text(edition))])
                post.add(name, own, wire=chance.choice(WIRES), manner=chance.choice(MANNERS))
            for first in post.houses:
                self.assertIsNone(losing_row(post, first, most=5))
                row = [first, *(chance.choice(post.houses) for _ in range(6)), first]
                self.assertEqual(lost_on(post, row), [])
                for name in edition.names:
                    self.assertEqual(through(post, row, name), name)
                    post.put(first, name)
                    other = chance.choice(post.houses)
                    self.assertEqual(post.hand(first, other, len(post.held(first)) - 1), name)
                    self.assertEqual(post.hand(other, first, len(post.held(other)) - 1), name)

    def test_a_newer_edition_keeps_what_the_elder_one_hands_over_names(self):
        for seed in range(200):
            chance = random.Random(seed)
            old, new = random_editions(chance)
            for manner in MANNERS:
                post = Post()
                post.add("old", old, wire="name")
                post.add("new", new, wire="name", manner=manner)
                self.assertEqual(lost_on(post, ["old", "new"]), [])
                for name in old.names:
                    self.assertEqual(through(post, ["old", "new"], name), new[name].name)
                self.assertLessEqual(set(new_members(old, new)), set(lost_on(post, ["new", "old"])))

    def test_new_members_of_later_editions(self):
        for seed in range(40):
            chance = random.Random(seed)
            edition = edition_by_chance(chance, 3, 2)
            for later in later_editions(edition, ("any", []), 2):
                post = Post()
                post.add("old", edition, wire=chance.choice(WIRES))
                post.add("kept", edition, wire=chance.choice(WIRES), manner="keep")
                post.add("new", later, wire=post.house("kept").wire)
                self.assertEqual(lost_on(post, ["new", "old"]), new_members(edition, later))
                self.assertEqual(lost_on(post, ["old", "new", "old"]), [])
                self.assertEqual(lost_on(post, ["new", "kept", "new"]), [])
                self.assertIsNone(losing_row(post, "old", most=5))
                self.assertEqual(losing_row(post, "new"), ["new", "old", "new"])

    def test_upgrades_are_to_newer_editions(self):
        seen = {True: 0, False: 0}
        for seed in range(200):
            old, new = random_editions(random.Random(seed))
            for one, other in ((old, new), (new, old)):
                post = Post()
                post.add("a", one)
                for name in one.names:
                    post.put("a", name)
                lost = lost_name(one, other)
                seen[lost is None] += 1
                if lost is None:
                    post.upgrade("a", other)
                    self.assertEqual(post.held("a"), [other[name].name for name in one.names])
                else:
                    with self.assertRaises(NotNewer) as caught:
                        post.upgrade("a", other)
                    self.assertEqual(caught.exception.name, lost)
                    self.assertEqual(post.held("a"), one.names)
        self.assertGreater(min(seen.values()), 50)

    def test_an_upgrade_to_what_was_found(self):
        edition = edition_by_chance(random.Random(3), 4, 2)
        later = lasts(edition, ("text", ("last",)), ("end", []))
        post = Post()
        post.add("old", edition, manner="keep")
        post.add("new", later)
        name, = new_members(edition, later)
        post.put("new", name)
        self.assertEqual(post.hand("new", "old", 0), ("unknown", "number", later[name].number))
        post.upgrade("old", later)
        self.assertEqual(post.held("old"), [name])


class Read(unittest.TestCase):
    def test_what_is_read_answers_reaches_and_keeps_as_the_edition(self):
        for seed in range(150):
            chance = random.Random(seed)
            old, new = random_editions(chance)
            editions = [(old, new), (read_edition(edition_text(old)), read_edition(edition_text(new)))]
            kinds, names = random_kinds(chance), random_names(chance, old)
            fallbacks = chance.choice([None, {name: chance.choice(old.names) for name in new_members(old, new)}])
            more = {"names": names, "fallbacks": fallbacks}
            told = []
            for one, other in editions:
                found = reached(one, other, kinds, **more)
                callers = callers_of(old, kinds, names, fallbacks, random.Random(seed))
                told.append((
                    [answer(caller, edition, fallbacks=fallbacks) for caller in callers for edition in (one, other)],
                    [is_written_for(caller, edition) for caller in callers for edition in (one, other)],
                    lost_name(one, other), lost_name(other, one), new_members(one, other), found,
                    kept(one, other, kinds, **more), is_evidence(one, other, kinds, found, **more),
                    shortest(one, other, kinds, **more), greatest(one, other, kinds, **more),
                    safe_fallbacks(one, other, kinds, names=names),
                    [is_later(one, other, (where, one.sets)) for where in ("end", "any")],
                ))
            self.assertEqual(told[0], told[1])

    def test_callers_that_last(self):
        for seed in range(100):
            chance = random.Random(seed)
            edition = edition_by_chance(chance)
            read = read_edition(edition_text(edition))
            rule, caller = rule_by_chance(chance, edition), caller_by_chance(chance, edition, 8)
            one, other = lasts(edition, caller, rule), lasts(read, caller, rule)
            if one is None:
                self.assertIsNone(other)
            else:
                self.assertEqual(len(one), len(other))
                self.assertIs(is_later(read, read_edition(edition_text(one)), rule), True)
                self.assertNotEqual(answer(caller, read_edition(edition_text(other))), answer(caller, edition))

    def test_members_and_sets_are_equal(self):
        for seed in range(60):
            edition = edition_by_chance(random.Random(seed))
            read = read_edition(edition_text(edition))
            self.assertTrue(read.everything() == edition.everything())
            for name in edition.names:
                self.assertTrue(read[name] == edition[name])
                self.assertTrue(read[name] in edition.everything())
            for name in edition.sets:
                self.assertTrue(read.group(name) == edition.group(name))

    def test_posts(self):
        for seed in range(60):
            chance = random.Random(seed)
            old, new = random_editions(chance)
            posts = [Post(), Post()]
            words = [(name, chance.choice(WIRES), chance.choice(MANNERS)) for name in ("a", "b", "c")]
            for post, again in zip(posts, (False, True)):
                def read(edition):
                    return read_edition(edition_text(edition)) if again else edition

                for at, (name, wire, manner) in enumerate(words):
                    post.add(name, read(new if at else old), wire=wire, manner=manner)
                for name in new.names:
                    post.put("b", name)
                    post.hand("b", "a", len(post.held("b")) - 1)
                post.upgrade("a", read(new))
            self.assertTrue(posts[0] == posts[1])
            self.assertEqual(posts[0].held("a"), posts[1].held("a"))
            self.assertEqual(losing_row(posts[0], "b"), losing_row(posts[1], "b"))


class Kinds(unittest.TestCase):
    def test_no_kind_sees_more_than_its_deeds(self):
        self.assertEqual(SEEING, {"is", "less", "counts", "number", "text"})
        for seed in range(100):
            chance = random.Random(seed)
            edition = edition_by_chance(chance, 3, 2)
            caller = caller_by_chance(chance, edition, 8)
            kinds = kinds_of(caller)
            self.assertEqual(kinds, sorted(set(kinds)))
            self.assertTrue(is_written_for(caller, edition))
            if is_right_list(kinds) and len(kinds) <= 6:
                self.assertIs(kept(edition, edition, kinds), True)
                self.assertEqual(safe_fallbacks(edition, edition, kinds), [{}])
