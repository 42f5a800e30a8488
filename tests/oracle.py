"""Another way to what the stages 4 to 7 tell: every value that deeds can tell, in both editions at once.

A side of a pair is None where a deed fails. Sets are frozensets of places.
"""

import random

from growlists.editions import Edition

KINDS = ["is", "less", "text", "number", "sets", "only", "all", "ends", "steps", "counts", "lookups", "choices"]
SEEING = {"is", "less", "counts", "number", "text"}
ANSWERS = ("truth", "number", "text")


def is_right_list(kinds):
    """Whether some different kinds are a list of kinds."""
    if "only" in kinds and "sets" not in kinds:
        return False
    return bool(SEEING & set(kinds)) or ("sets" in kinds and bool({"all", "only"} & set(kinds)))


class Both:
    """The values that deeds of some kinds tell in two editions."""

    def __init__(self, elder, newer, kinds, names=None, fallbacks=None):
        self.editions = (elder, newer)
        self.kinds = kinds
        self.leaves = self._leaves(names, fallbacks)

    def _leaves(self, names, fallbacks):
        elder, newer = self.editions
        leaves = []
        if names is None:
            names = [word for name in elder.names for word in (name, *elder[name].aliases)]
        for name in names:
            leaves.append(("member", (elder[name].place, newer[name].place)))
        for name, fallback in (fallbacks or {}).items():
            leaves.append(("member", (elder[fallback].place, newer[name].place)))
        if "ends" in self.kinds:
            leaves.append(("member", (0, 0)))
            leaves.append(("member", (len(elder) - 1, len(newer) - 1)))
        if "lookups" in self.kinds:
            numbers = {newer[name].number: newer[name].place for name in newer.names}
            for name in elder.names:
                leaves.append(("member", (elder[name].place, numbers.get(elder[name].number))))
        if "all" in self.kinds:
            leaves.append(("set", (frozenset(range(len(elder))), frozenset(range(len(newer))))))
        if "sets" in self.kinds:
            for name in elder.sets:
                leaves.append(("set", tuple(
                    frozenset(edition[word].place for word in edition.group(name).names) for edition in self.editions
                )))
        return leaves

    def _each(self, do, *pairs):
        """What is told on both sides, where nothing in it fails."""
        told = []
        for edition, *parts in zip(self.editions, *pairs):
            told.append(None if None in parts else do(edition, *parts))
        return tuple(told)

    def of_one(self, sort, pair):
        """What one more deed makes of a member or set."""
        found = []
        if sort == "member":
            if "steps" in self.kinds:
                found.append(("member", self._each(lambda e, x: x + 1 if x + 1 < len(e) else None, pair)))
                found.append(("member", self._each(lambda e, x: x - 1 if x else None, pair)))
            if "only" in self.kinds:
                found.append(("set", self._each(lambda e, x: frozenset([x]), pair)))
            if "counts" in self.kinds:
                found.append(("number", self._each(lambda e, x: x, pair)))
            if "number" in self.kinds:
                found.append(("number", self._each(lambda e, x: e[e.names[x]].number, pair)))
            if "text" in self.kinds:
                found.append(("text", self._each(lambda e, x: e.names[x], pair)))
        elif sort == "set":
            if "ends" in self.kinds:
                found.append(("member", self._each(lambda e, s: min(s, default=None), pair)))
                found.append(("member", self._each(lambda e, s: max(s, default=None), pair)))
            if "sets" in self.kinds:
                found.append(("truth", self._each(lambda e, s: not s, pair)))
            if "counts" in self.kinds:
                found.append(("number", self._each(lambda e, s: len(s), pair)))
        return found

    def of_two(self, sorts, one, other):
        """What one more deed makes of two values, the first one being a member if one of them is."""
        found = []
        if sorts == ("member", "member"):
            if "is" in self.kinds:
                found.append(("truth", self._each(lambda e, x, y: x == y, one, other)))
            if "less" in self.kinds:
                found.append(("truth", self._each(lambda e, x, y: x < y, one, other)))
        elif sorts == ("member", "set") and "sets" in self.kinds:
            found.append(("truth", self._each(lambda e, x, s: x in s, one, other)))
        elif sorts == ("set", "set") and "sets" in self.kinds:
            found.append(("set", self._each(lambda e, s, t: s | t, one, other)))
            found.append(("set", self._each(lambda e, s, t: s & t, one, other)))
            found.append(("set", self._each(lambda e, s, t: s - t, one, other)))
        if sorts[0] == sorts[1] and "choices" in self.kinds:
            found.append((sorts[0], tuple(y if x is None else x for x, y in zip(one, other))))
        return found

    def of_three(self, truth, sort, one, other):
        """What "if" makes of a truth and two values of a sort."""
        if "choices" not in self.kinds:
            return []
        return [(sort, tuple(None if t is None else x if t else y for t, x, y in zip(truth, one, other)))]

    def reached(self):
        """All values that are told, with their sorts. There must be no "choices" among the kinds."""
        known = {}
        waiting = list(self.leaves)
        while waiting:
            value = waiting.pop()
            if value in known:
                continue
            known[value] = True
            waiting.extend(self.of_one(*value))
            for sort, pair in [] if value[0] in ANSWERS else list(known):
                waiting.extend(self.of_two((value[0], sort), value[1], pair))
                waiting.extend(self.of_two((sort, value[0]), pair, value[1]))
        return list(known)

    def pairs_and_parts(self):
        """What reached has to return, by places."""
        values = self.reached()
        pairs = sorted({pair for sort, pair in values if sort == "member" and None not in pair})
        if any((pair[0] is None) != (pair[1] is None) for sort, pair in values if sort == "member"):
            return None
        sets = [pair for sort, pair in values if sort == "set" and None not in pair]
        parts = {}
        for side, edition in enumerate(self.editions):
            for place in range(len(edition)):
                lies = tuple(place in pair[side] for pair in sets)
                if any(lies):
                    parts.setdefault(lies, ([], []))[side].append(place)
        return pairs, sorted(parts.values())

    def least_size(self, most):
        """The least size of a caller that differs, None if it is more than most."""
        levels = [[]]
        known = {}
        for size in range(1, most + 1):
            found = self._of_size(size, levels)
            if any(sort in ANSWERS and repr(one) != repr(other) for sort, (one, other) in found):
                return size
            levels.append([])
            for value in found:
                if repr(value) not in known:
                    known[repr(value)] = True
                    levels[size].append(value)
        return None

    def _of_size(self, size, levels):
        found = list(self.leaves) if size == 1 else []
        for value in levels[size - 1]:
            found.extend(self.of_one(*value))
        for many in range(1, size - 1):
            for sort, pair in levels[many]:
                for other_sort, other in levels[size - 1 - many]:
                    found.extend(self.of_two((sort, other_sort), pair, other))
        if "choices" in self.kinds:
            found.extend(self._ifs(size, levels))
        return found

    def _ifs(self, size, levels):
        found = []
        for many in range(1, size - 2):
            for sort, truth in levels[many]:
                if sort == "truth":
                    for more in range(1, size - 1 - many):
                        for one_sort, one in levels[more]:
                            for other_sort, other in levels[size - 1 - many - more]:
                                if one_sort == other_sort:
                                    found.extend(self.of_three(truth, one_sort, one, other))
        return found

    def differs(self):
        """Whether some caller differs, of whatever size. There must be no "choices" among the kinds."""
        return any(sort in ANSWERS and repr(one) != repr(other) for sort, (one, other) in self.reached())


def random_editions(chance, most_elder=4, most_new=2):
    """An elder and a newer edition, from an object of random.Random."""
    names = chance.sample("abcdefghijklmnopqrs", 12)
    many = chance.randint(1, most_elder)
    rows = [[names.pop(), [], number] for number in chance.sample(range(9), many)]
    for _ in range(chance.choice([0, 0, 1, 2])):
        chance.choice(rows)[1].append(names.pop())
    sets = {name: [row[0] for row in rows if chance.random() < 0.5] for name in "xyz"[:chance.choice([0, 1, 1, 2, 3])]}
    elder = Edition([(name, tuple(aliases), number) for name, aliases, number in rows], sets)
    rows = [[name, list(aliases), number] for name, aliases, number in rows]
    if chance.random() < 0.2 and len(rows) > 1:
        name, aliases, _ = rows.pop(chance.randrange(len(rows)))
        chance.choice(rows)[1].extend([name, *aliases])
    if chance.random() < 0.1:
        row = chance.choice(rows)
        if row[1]:
            row[0], row[1][0] = row[1][0], row[0]
    for _ in range(chance.randint(0, most_new)):
        place = chance.choice([len(rows), len(rows), chance.randint(0, len(rows))])
        rows.insert(place, [names.pop(), [], 20 + len(rows)])
    if chance.random() < 0.1:
        chance.shuffle(rows)
    if chance.random() < 0.2:
        chance.choice(rows)[2] = 99
    old = set(elder.names)
    wider = {}
    for name, members in sets.items():
        kept = [row[0] for row in rows if row[0] in members]
        wider[name] = kept + [row[0] for row in rows if row[0] not in old and chance.random() < 0.4]
        if chance.random() < 0.1:
            wider[name] = [row[0] for row in rows if chance.random() < 0.5]
    return elder, Edition([(name, tuple(aliases), number) for name, aliases, number in rows], wider)


def random_kinds(chance):
    """A list of kinds."""
    while True:
        kinds = chance.sample(KINDS, chance.randint(1, 6))
        if is_right_list(kinds):
            return kinds


def random_names(chance, elder):
    """None, or some names and aliases of an edition."""
    words = [word for name in elder.names for word in (name, *elder[name].aliases)]
    return chance.choice([None, chance.sample(words, chance.randint(0, len(words)))])
