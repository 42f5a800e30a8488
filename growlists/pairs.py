"""The pairs of members and of sets that deeds lead to, run in an elder and a newer edition at once."""

from growlists.errors import BadFallbacks, BadKinds, BadNames
from growlists.newer import new_members

ALL_KINDS = ("is", "less", "text", "number", "sets", "only", "all", "ends", "steps", "counts", "lookups", "choices")
MOST_KINDS = 6

# By each of these alone a caller sees members.
SEEING_KINDS = ("is", "less", "counts", "number", "text")


def reached(elder, newer, kinds, *, names=None, fallbacks=None):
    """The reached pairs of members, and the parts; None if one side fails alone."""
    check_given(elder, newer, kinds, names, fallbacks)
    found = reached_places(elder, newer, kinds, names, fallbacks)
    if found is None:
        return None
    pairs, parts = found
    olds = elder.names
    news = newer.names
    return (
        [(olds[x], news[y]) for x, y in pairs],
        [(tuple([olds[x] for x in one]), tuple([news[y] for y in other])) for one, other in parts],
    )


def check_given(elder, newer, kinds, names, fallbacks):
    """Raise the first error that is due for what callers are asked about."""
    new = new_members(elder, newer)
    if not is_list_of_kinds(kinds):
        raise BadKinds(kinds)
    if names is not None and not _are_names(names, elder):
        raise BadNames(names)
    if fallbacks is not None and not _are_fallbacks(fallbacks, elder, new):
        raise BadFallbacks(fallbacks)


def is_list_of_kinds(value):
    """Whether any value is a list of different kinds by which a caller sees members."""
    if not isinstance(value, list) or not 1 <= len(value) <= MOST_KINDS:
        return False
    if not all([kind in ALL_KINDS for kind in value]) or len(set(value)) < len(value):
        return False
    if "only" in value and "sets" not in value:
        return False
    if any([kind in value for kind in SEEING_KINDS]):
        return True
    return "sets" in value and ("all" in value or "only" in value)


def _are_names(value, elder):
    """Whether any value is a list of different names and aliases of the elder edition."""
    if not isinstance(value, list) or not all([word in elder for word in value]):
        return False
    return len(set(value)) == len(value)


def _are_fallbacks(value, elder, new):
    """Whether any value is a dict from all new members, and no others, to names of elder ones."""
    if not isinstance(value, dict) or len(value) != len(new):
        return False
    return all([name in value and value[name] in elder.names for name in new])


def written_words(elder, names):
    """The names that callers write: the given ones, or all names and aliases of the elder edition."""
    if names is not None:
        return list(names)
    return [word for name in elder.names for word in (name, *elder[name].aliases)]


# From here on, members are told by their places, and sets are tuples of places, ascending.


def reached_places(elder, newer, kinds, names, fallbacks):
    """The reached pairs of members and the parts, both ascending; None if one side fails alone."""
    pairs = written_pairs(elder, newer, names, fallbacks)
    while True:
        parts = parts_of(elder, newer, set_pairs(elder, newer, kinds, pairs))
        led = led_pairs(elder, newer, kinds, pairs, parts)
        if led is None:
            return None
        more = [pair for pair in led if pair not in pairs]
        if not more:
            return pairs, parts
        pairs = sorted([*pairs, *more])


def written_pairs(elder, newer, names, fallbacks):
    """The pairs of members that callers name or enter."""
    pairs = [(elder[word].place, newer[word].place) for word in written_words(elder, names)]
    if fallbacks is not None:
        pairs.extend([(elder[fallbacks[name]].place, newer[name].place) for name in fallbacks])
    return sorted(set(pairs))


def set_pairs(elder, newer, kinds, pairs):
    """The pairs of sets that deeds tell of themselves or of one member."""
    found = []
    if "sets" in kinds:
        found.extend([(_named_set(elder, name), _named_set(newer, name)) for name in elder.sets])
    if "only" in kinds:
        found.extend([((x,), (y,)) for x, y in pairs])
    if "all" in kinds:
        found.append((_all_places(elder), _all_places(newer)))
    return found


def _named_set(edition, name):
    """The places of the members of a named set."""
    return tuple([edition[member].place for member in edition.group(name).names])


def _all_places(edition):
    """The places of all members."""
    return tuple(range(len(edition)))


def parts_of(elder, newer, sets):
    """The parts: the members on both sides that lie in the same ones of these pairs of sets, at least in one."""
    sides = {}
    for at, edition in enumerate([elder, newer]):
        for place in range(len(edition)):
            lies = tuple([place in pair[at] for pair in sets])
            if True in lies:
                if lies not in sides:
                    sides[lies] = ([], [])
                sides[lies][at].append(place)
    return sorted([(tuple(one), tuple(other)) for one, other in sides.values()])


def led_pairs(elder, newer, kinds, pairs, parts):
    """The pairs of members to which deeds lead from such pairs and parts, None if one side fails alone."""
    led = []
    if "ends" in kinds:
        led.extend(_end_pairs(elder, newer, parts))
    if "steps" in kinds:
        led.extend(_neighbour_pairs(elder, newer, pairs))
    if "lookups" in kinds:
        led.extend(_numbered_pairs(elder, newer))
    if any([(x is None) != (y is None) for x, y in led]):
        return None
    return sorted({(x, y) for x, y in led if x is not None})


def _end_pairs(elder, newer, parts):
    """The first and the last members of both editions, and of all unions of parts."""
    sets = [(_all_places(elder), _all_places(newer))]
    # The ends of a union are ends of some parts in it, so unions of one or two parts show all of them.
    sets.extend([((*one[0], *other[0]), (*one[1], *other[1])) for one in parts for other in parts])
    firsts = [(min(olds, default=None), min(news, default=None)) for olds, news in sets]
    lasts = [(max(olds, default=None), max(news, default=None)) for olds, news in sets]
    return [*firsts, *lasts]


def _neighbour_pairs(elder, newer, pairs):
    """The members behind and before both sides of each pair."""
    return [(_place_in(elder, x + step), _place_in(newer, y + step)) for x, y in pairs for step in (1, -1)]


def _place_in(edition, place):
    """The place, None if it lies outside of the edition."""
    return place if 0 <= place < len(edition) else None


def _numbered_pairs(elder, newer):
    """The members with each number of the elder edition."""
    places = {newer[name].number: newer[name].place for name in newer.names}
    return [(elder[name].place, places.get(elder[name].number)) for name in elder.names]
