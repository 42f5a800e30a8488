"""Later editions, one by one, and callers by chance."""

import itertools

from growlists.callers import answer, size_of
from growlists.editions import Edition
from tests.deeds import DEEDS

RULES = ("end", "any")


def rows_of(edition):
    return [(name, edition[name].aliases, edition[name].number) for name in edition.names]


def sets_of(edition):
    return {name: edition.group(name).names for name in edition.sets}


def later_editions(edition, rule, many):
    """The later editions with so many new members, apart from how these are called and numbered."""
    where, grown = rule
    grown = sorted(set(grown))
    gaps = range(len(edition) + 1) if where == "any" else [len(edition)]
    choices = [chosen for size in range(len(grown) + 1) for chosen in itertools.combinations(grown, size)]
    for places in itertools.combinations_with_replacement(gaps, many):
        for within in itertools.product(choices, repeat=many):
            rows, sets = rows_of(edition), sets_of(edition)
            # From behind, so that the places before stay what they are.
            for at in reversed(range(many)):
                name = f"new{chr(ord('a') + at)}"
                rows.insert(places[at], (name, (), 700 + at))
                for word in within[at]:
                    sets[word].append(name)
            yield Edition(rows, sets)


def least_many(edition, caller, rule, most):
    """The least number of new members with which a caller answers otherwise, None if it is more than most."""
    elder = answer(caller, edition)
    for many in range(most + 1):
        if any(answer(caller, later) != elder for later in later_editions(edition, rule, many)):
            return many
    return None


def edition_by_chance(chance, most_members=4, most_sets=3):
    many = chance.randint(1, most_members)
    names = chance.sample("abcdefgh", many)
    numbers = chance.sample(range(-3, 9), many)
    aliases = {name: (name + "x",) if chance.random() < 0.2 else () for name in names}
    sets = {word: [name for name in names if chance.random() < 0.5] for word in "stu"[:chance.randint(0, most_sets)]}
    return Edition([(name, aliases[name], number) for name, number in zip(names, numbers)], sets)


def rule_by_chance(chance, edition):
    return chance.choice(RULES), chance.sample(edition.sets, chance.randint(0, len(edition.sets)))


def caller_by_chance(chance, edition, most):
    """A caller of at most so many deeds that is written for an edition, rather a large one."""
    while True:
        caller = deed_by_chance(chance, edition, chance.choice(["truth", "truth", "number", "text"]), most)
        if caller is not None and size_of(caller) >= most // 2:
            return caller


def deed_by_chance(chance, edition, sort, most):
    """A deed that tells a sort, with at most so many deeds in all, None if none is found."""
    if sort == "member":
        leaves = [("name", name) for name in edition.names] + [("first",), ("last",)]
        leaves += [("numbered", edition[name].number) for name in edition.names]
    else:
        leaves = [("set", word) for word in edition.sets] + [("all",)] if sort == "set" else []
    shapes = [(word, parts) for told, word, parts, _ in DEEDS if told == sort and 0 < len(parts) < most]
    if leaves and (not shapes or chance.random() < 0.1):
        return chance.choice(leaves)
    for word, sorts in chance.sample(shapes, min(3, len(shapes))):
        left, parts = most - 1, []
        for at, part in enumerate(sorts):
            spare = left - (len(sorts) - at - 1)
            deed = deed_by_chance(chance, edition, part, spare if at == len(sorts) - 1 else chance.randint(1, spare))
            if deed is None:
                break
            parts.append(deed)
            left -= deeds_in(deed)
        if len(parts) == len(sorts):
            return (word, *parts)
    return chance.choice(leaves) if leaves else None


def deeds_in(deed):
    return 1 + sum(deeds_in(part) for part in deed[1:] if isinstance(part, tuple))
