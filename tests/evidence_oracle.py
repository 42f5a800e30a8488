"""Another way to what is_evidence tells, and values that are nearly evidence."""


def is_right_evidence(elder, newer, kinds, value, names=None, fallbacks=None):
    """Whether any value is evidence: read off the document, line by line."""
    if not _has_form(elder, newer, value):
        return False
    pairs, parts = value
    unions = _unions(parts)
    if not _has_sets(elder, newer, kinds, pairs, parts, unions):
        return False
    if names is None:
        names = [word for name in elder.names for word in (name, *elder[name].aliases)]
    led = [(elder[name].name, newer[name].name) for name in names]
    led += [(fallback, name) for name, fallback in (fallbacks or {}).items()]
    if "ends" in kinds:
        for one, other in [*unions, (frozenset(elder.names), frozenset(newer.names))]:
            olds = [name for name in elder.names if name in one] or [None]
            news = [name for name in newer.names if name in other] or [None]
            led += [(olds[0], news[0]), (olds[-1], news[-1])]
    if "steps" in kinds:
        for one, other in pairs:
            x, y = elder.names.index(one), newer.names.index(other)
            led.append(((elder.names + [None])[x + 1], (newer.names + [None])[y + 1]))
            led.append((([None] + elder.names)[x], ([None] + newer.names)[y]))
    if "lookups" in kinds:
        numbers = {newer[name].number: name for name in newer.names}
        led += [(name, numbers.get(elder[name].number)) for name in elder.names]
    if not all(pair in pairs or pair == (None, None) for pair in led):
        return False
    return _holds(elder, newer, kinds, pairs, parts)


def _has_form(elder, newer, value):
    if type(value) is not tuple or len(value) != 2 or type(value[0]) is not list or type(value[1]) is not list:
        return False
    for pair in value[0]:
        if type(pair) is not tuple or len(pair) != 2 or type(pair[0]) is not str or type(pair[1]) is not str:
            return False
        if pair[0] not in elder.names or pair[1] not in newer.names:
            return False
    for part in value[1]:
        if type(part) is not tuple or len(part) != 2 or part == ((), ()):
            return False
        for side, edition in zip(part, (elder, newer)):
            if type(side) is not tuple or list(side) != [name for name in edition.names if name in side]:
                return False
    olds = [name for part in value[1] for name in part[0]]
    news = [name for part in value[1] for name in part[1]]
    return all(len(set(names)) == len(names) for names in (value[0], olds, news))


def _unions(parts):
    unions = [(frozenset(), frozenset())]
    for one, other in parts:
        unions += [(olds | set(one), news | set(other)) for olds, news in unions]
    return unions


def _has_sets(elder, newer, kinds, pairs, parts, unions):
    whole = (tuple(elder.names), tuple(newer.names))
    if "sets" not in kinds:
        return parts == ([whole] if "all" in kinds else [])
    sets = [(elder.group(name).names, newer.group(name).names) for name in elder.sets]
    if "only" in kinds:
        sets += [([one], [other]) for one, other in pairs]
    if "all" in kinds:
        sets.append(whole)
    return all((frozenset(one), frozenset(other)) in unions for one, other in sets)


def _holds(elder, newer, kinds, pairs, parts):
    for one, other in pairs:
        x, y = elder[one], newer[other]
        for more, another in pairs:
            if "is" in kinds and (one == more) != (other == another):
                return False
            if "less" in kinds and x.before(elder[more]) != y.before(newer[another]):
                return False
        if "sets" in kinds and any((one in olds) != (other in news) for olds, news in parts):
            return False
        if "counts" in kinds and x.place != y.place:
            return False
        if "number" in kinds and x.number != y.number:
            return False
        if "text" in kinds and one != other:
            return False
    if "sets" in kinds and any(() in part for part in parts):
        return False
    return "counts" not in kinds or all(len(olds) == len(news) for olds, news in parts)


def near_values(chance, elder, newer, value):
    """A value near a tuple (pairs, parts): a pair or a part is put in, left out, exchanged, joined or split."""
    pairs, parts = list(value[0]), list(value[1])
    words = [list(elder.names), list(newer.names)]
    for _ in range(chance.choice([1, 1, 2])):
        deed = chance.randrange(9)
        if deed == 0:
            pairs.insert(chance.randint(0, len(pairs)), (chance.choice(words[0]), chance.choice(words[1])))
        elif deed == 1 and pairs:
            pairs.pop(chance.randrange(len(pairs)))
        elif deed == 2 and pairs:
            pairs[chance.randrange(len(pairs))] = (chance.choice(words[0]), chance.choice(words[1]))
        elif deed == 3 and parts:
            parts.pop(chance.randrange(len(parts)))
        elif deed == 4 and len(parts) > 1:
            one, other = parts.pop(chance.randrange(len(parts))), parts.pop(chance.randrange(len(parts)))
            parts.append(tuple(
                tuple(name for name in names if name in one[side] + other[side]) for side, names in enumerate(words)
            ))
        elif deed == 5 and parts:
            part = parts.pop(chance.randrange(len(parts)))
            cut = [{name: chance.random() < 0.5 for name in side} for side in part]
            for half in (True, False):
                parts.append(tuple(tuple(name for name in side if cut[at][name] is half)
                                   for at, side in enumerate(part)))
        elif deed == 6:
            parts.append(tuple(tuple(name for name in names if chance.random() < 0.3) for names in words))
        elif deed == 7 and parts:
            at = chance.randrange(len(parts))
            part = list(parts[at])
            side = chance.randrange(2)
            name = chance.choice(words[side])
            part[side] = tuple(word for word in words[side] if (word in part[side]) != (word == name))
            parts[at] = tuple(part)
        else:
            chance.shuffle(pairs)
            chance.shuffle(parts)
    return pairs, parts
