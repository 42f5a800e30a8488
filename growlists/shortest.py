"""The shortest callers that answer otherwise in a newer edition."""

from growlists.callers import KINDS, SHAPES, looked_up, told_of
from growlists.pairs import check_given, written_words


def shortest(elder, newer, kinds, *, most=6, names=None, fallbacks=None):
    """A caller of the fewest deeds that has other answers in both editions, None if these are more than most."""
    check_given(elder, newer, kinds, names, fallbacks)
    # For each number of deeds: tuples (deed, sort, told in the elder, told in the newer edition), one for each pair
    # of members or sets that no fewer deeds tell.
    levels = [[]]
    known = {}
    for size in range(1, most + 1):
        trials = _joined_deeds(size, levels, elder, newer, kinds)
        if size == 1:
            trials.extend(_looking_deeds(elder, newer, kinds, names, fallbacks))
        levels.append([])
        for trial in trials:
            deed, sort, old, new = trial
            if sort in ("member", "set"):
                mark = (sort, _mark_of(sort, old), _mark_of(sort, new))
                if mark not in known:
                    known[mark] = True
                    levels[size].append(trial)
            elif old != new:
                return deed
    return None


def _looking_deeds(elder, newer, kinds, names, fallbacks):
    """The deeds that look up a name, an entry, a number or a named set, with what they tell."""
    deeds = [("name", word) for word in written_words(elder, names)]
    if fallbacks is not None:
        deeds.extend([("entry", name) for name in fallbacks])
    if "lookups" in kinds:
        deeds.extend([("numbered", elder[name].number) for name in elder.names])
    if "sets" in kinds:
        deeds.extend([("set", name) for name in elder.sets])
    return [
        (deed, SHAPES[(deed[0], 2)][0], looked_up(deed, elder, fallbacks), looked_up(deed, newer, fallbacks))
        for deed in deeds
    ]


def _joined_deeds(size, levels, elder, newer, kinds):
    """The deeds of this size that look nothing up themselves, with what they tell."""
    trials = []
    for word, many in SHAPES:
        if KINDS.get(word) in kinds:
            sort, *asked = SHAPES[(word, many)]
            for parts in _parts_telling(asked, size - 1, levels):
                old = told_of(word, [part[2] for part in parts], elder)
                new = told_of(word, [part[3] for part in parts], newer)
                trials.append(((word, *[part[0] for part in parts]), sort, old, new))
    return trials


# Choices are left out, as no part is of the sort "same": no shortest caller has one. As long as no truth differs, "if"
# tells what one of its branches tells, or fails on both sides. And "else" tells what one of its parts tells, unless the
# first one fails on one side alone; but then at most two more deeds show that, while "else" itself, its other part and
# a deed that shows what they tell are three.
def _parts_telling(sorts, deeds, levels):
    """All lists of parts that tell these sorts and have so many deeds together."""
    if not sorts:
        return [[]] if deeds == 0 else []
    return [
        [part, *rest]
        for many in range(1, deeds + 1)
        for part in levels[many] if part[1] == sorts[0]
        for rest in _parts_telling(sorts[1:], deeds - many, levels)
    ]


def _mark_of(sort, told):
    """What tells members and sets of one edition apart, and from a failure, as a part of a key."""
    if told is None:
        return None
    return told.place if sort == "member" else tuple(told.names)
