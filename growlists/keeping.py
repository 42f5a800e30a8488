"""Whether callers of some kinds answer in a newer edition as they do in the elder one."""

from growlists.pairs import check_given, led_pairs, parts_of, reached_places, set_pairs, written_pairs


def kept(elder, newer, kinds, *, names=None, fallbacks=None):
    """Whether the kinds are kept."""
    check_given(elder, newer, kinds, names, fallbacks)
    return keeps(elder, newer, kinds, names, fallbacks)


def keeps(elder, newer, kinds, names, fallbacks):
    """Whether the kinds are kept, for right arguments; there may be fallbacks of some new members only."""
    found = reached_places(elder, newer, kinds, names, fallbacks)
    if found is None:
        return False
    pairs, parts = found
    return _look_alike(elder, newer, kinds, pairs, parts)


def is_evidence(elder, newer, kinds, value, *, names=None, fallbacks=None):
    """Whether any value is evidence that the kinds are kept."""
    check_given(elder, newer, kinds, names, fallbacks)
    if not isinstance(value, tuple) or len(value) != 2:
        return False
    pairs = _pairs_told(value[0], elder, newer)
    parts = _parts_told(value[1], elder, newer)
    if pairs is None or parts is None:
        return False
    if not all([pair in pairs for pair in written_pairs(elder, newer, names, fallbacks)]):
        return False
    led = led_pairs(elder, newer, kinds, pairs, parts)
    if led is None or not all([pair in pairs for pair in led]):
        return False
    sets = set_pairs(elder, newer, kinds, pairs)
    if "sets" not in kinds and parts != parts_of(elder, newer, sets):
        return False
    return all([_is_union(pair, parts) for pair in sets]) and _look_alike(elder, newer, kinds, pairs, parts)


def _look_alike(elder, newer, kinds, pairs, parts):
    """Whether deeds of these kinds see the same on both sides of all pairs of members and all parts."""
    return all([_looks_alike(kind, elder, newer, pairs, parts) for kind in kinds])


def _looks_alike(kind, elder, newer, pairs, parts):
    """Whether deeds of one kind see the same on both sides of all pairs of members and all parts."""
    if kind == "is":
        return all([(x == u) == (y == v) for x, y in pairs for u, v in pairs])
    if kind == "less":
        return all([(x < u) == (y < v) for x, y in pairs for u, v in pairs])
    if kind == "sets":
        full = all([len(one) > 0 and len(other) > 0 for one, other in parts])
        return full and all([(x in one) == (y in other) for x, y in pairs for one, other in parts])
    if kind == "counts":
        return all([x == y for x, y in pairs]) and all([len(one) == len(other) for one, other in parts])
    if kind == "number":
        return all([_member_at(elder, x).number == _member_at(newer, y).number for x, y in pairs])
    if kind == "text":
        return all([_member_at(elder, x).name == _member_at(newer, y).name for x, y in pairs])
    return True


def _member_at(edition, place):
    """The member at a place."""
    return edition[edition.names[place]]


def _pairs_told(value, elder, newer):
    """The places in a list of different pairs of names of members, None if any value is no such list."""
    if not isinstance(value, list):
        return None
    pairs = []
    for entry in value:
        if not isinstance(entry, tuple) or len(entry) != 2:
            return None
        if entry[0] not in elder.names or entry[1] not in newer.names:
            return None
        pairs.append((elder[entry[0]].place, newer[entry[1]].place))
    return pairs if len(set(pairs)) == len(pairs) else None


def _parts_told(value, elder, newer):
    """The places in a list of parts that share no member, None if any value is no such list."""
    if not isinstance(value, list):
        return None
    parts = []
    for entry in value:
        if not isinstance(entry, tuple) or len(entry) != 2:
            return None
        one = _side_told(entry[0], elder)
        other = _side_told(entry[1], newer)
        if one is None or other is None or len(one) + len(other) == 0:
            return None
        parts.append((one, other))
    for at in (0, 1):
        places = [place for part in parts for place in part[at]]
        if len(set(places)) < len(places):
            return None
    return parts


def _side_told(value, edition):
    """The places in a tuple of names of members in their order, None if any value is no such tuple."""
    if not isinstance(value, tuple) or not all([name in edition.names for name in value]):
        return None
    places = [edition[name].place for name in value]
    return tuple(places) if places == sorted(set(places)) else None


def _is_union(pair, parts):
    """Whether a pair of sets is a union of parts, perhaps of none."""
    within = [part for part in parts if _lies_in(part[0], pair[0]) and _lies_in(part[1], pair[1])]
    return all([sorted([place for part in within for place in part[at]]) == list(pair[at]) for at in (0, 1)])


def _lies_in(places, others):
    """Whether all of these places are among the others."""
    return all([place in others for place in places])
