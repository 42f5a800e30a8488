"""Callers: what programs do with the values of an edition, and what they answer."""

from growlists.checks import is_integer, is_name
from growlists.editions import Group
from growlists.errors import BadCaller, NoMember

MOST_DEEDS = 60

# For the word and the length of a deed: the sort that it tells, and what stands behind the word.
# "same" stands for the sort that is asked for where the deed stands.
SHAPES = {
    ("name", 2): ("member", "word"),
    ("entry", 2): ("member", "word"),
    ("numbered", 2): ("member", "integer"),
    ("first", 1): ("member",),
    ("first", 2): ("member", "set"),
    ("last", 1): ("member",),
    ("last", 2): ("member", "set"),
    ("next", 2): ("member", "member"),
    ("previous", 2): ("member", "member"),
    ("set", 2): ("set", "word"),
    ("all", 1): ("set",),
    ("only", 2): ("set", "member"),
    ("or", 3): ("set", "set", "set"),
    ("and", 3): ("set", "set", "set"),
    ("but", 3): ("set", "set", "set"),
    ("is", 3): ("truth", "member", "member"),
    ("less", 3): ("truth", "member", "member"),
    ("in", 3): ("truth", "member", "set"),
    ("empty", 2): ("truth", "set"),
    ("size", 2): ("number", "set"),
    ("place", 2): ("number", "member"),
    ("number", 2): ("number", "member"),
    ("text", 2): ("text", "member"),
    ("if", 4): ("same", "truth", "same", "same"),
    ("else", 3): ("same", "same", "same"),
}

# The deeds "name" and "entry" are of no kind.
KINDS = {
    "is": "is",
    "less": "less",
    "text": "text",
    "number": "number",
    "set": "sets",
    "or": "sets",
    "and": "sets",
    "but": "sets",
    "in": "sets",
    "empty": "sets",
    "only": "only",
    "all": "all",
    "first": "ends",
    "last": "ends",
    "next": "steps",
    "previous": "steps",
    "size": "counts",
    "place": "counts",
    "numbered": "lookups",
    "if": "choices",
    "else": "choices",
}


def is_caller(value):
    """Whether any value is a caller."""
    return deeds_of(value) is not None


def size_of(caller):
    """The number of the deeds of a caller."""
    return len(_checked_deeds(caller))


def kinds_of(caller):
    """The kinds of the deeds of a caller, ascending."""
    return sorted({KINDS[deed[0]] for deed in _checked_deeds(caller) if deed[0] in KINDS})


def is_written_for(caller, edition):
    """Whether the edition has the names, names of sets and numbers of a caller."""
    return all([_is_known(deed, edition) for deed in _checked_deeds(caller)])


def answer(caller, edition, *, fallbacks=None):
    """What a caller tells in an edition: ("told", value), or ("fails",)."""
    if not is_caller(caller):
        raise BadCaller(caller)
    return as_answer(_told(caller, edition, {} if fallbacks is None else fallbacks))


def as_answer(told):
    """The answer of a caller that tells this, or that fails where this is None."""
    return ("fails",) if told is None else ("told", told)


def _checked_deeds(caller):
    """The deeds of a caller, which any value may turn out not to be."""
    deeds = deeds_of(caller)
    if deeds is None:
        raise BadCaller(caller)
    return deeds


def deeds_of(value):
    """The deeds of a caller, None for any other value."""
    for sort in ("truth", "number", "text"):
        deeds = _deeds_telling(value, sort)
        if deeds is not None:
            return deeds
    return None


def _deeds_telling(value, sort):
    """The deeds of a value that tells a sort by at most 60 deeds, None for any other value."""
    deeds = []
    waiting = [(value, sort)]
    while waiting:
        deed, wanted = waiting.pop()
        parts = _parts_of(deed, wanted)
        # Tuples that hold one tuple twice, many times over, have more deeds than can be walked.
        if parts is None or len(deeds) == MOST_DEEDS:
            return None
        deeds.append(deed)
        waiting.extend(parts)
    return deeds


def _parts_of(value, wanted):
    """What has to be deeds in a deed that tells a sort, with their sorts; None if it is no such deed."""
    if not isinstance(value, tuple) or len(value) == 0 or not isinstance(value[0], str):
        return None
    shape = SHAPES.get((value[0], len(value)))
    if shape is None:
        return None
    sorts = [wanted if sort == "same" else sort for sort in shape]
    if sorts[0] != wanted:
        return None
    parts = []
    for part, asked in zip(value[1:], sorts[1:]):
        if asked == "word":
            if not is_name(part):
                return None
        elif asked == "integer":
            if not is_integer(part):
                return None
        else:
            parts.append((part, asked))
    return parts


def _is_known(deed, edition):
    """Whether the edition has the name or number that a deed itself looks up, if any."""
    if deed[0] == "name":
        return deed[1] in edition
    if deed[0] == "set":
        return deed[1] in edition.sets
    if deed[0] == "numbered":
        return _member_numbered(edition, deed[1]) is not None
    return True


def _told(deed, edition, fallbacks):
    """What a deed tells in an edition, None if it fails."""
    word = deed[0]
    if word == "if":
        truth = _told(deed[1], edition, fallbacks)
        if truth is None:
            return None
        return _told(deed[2] if truth else deed[3], edition, fallbacks)
    if word == "else":
        one = _told(deed[1], edition, fallbacks)
        return _told(deed[2], edition, fallbacks) if one is None else one
    if word in ("name", "entry", "numbered", "set"):
        return looked_up(deed, edition, fallbacks)
    return told_of(word, [_told(part, edition, fallbacks) for part in deed[1:]], edition)


def told_of(word, parts, edition):
    """What a deed tells of what the deeds in it tell; None if it fails, as they do."""
    if any([part is None for part in parts]):
        return None
    sort = SHAPES[(word, len(parts) + 1)][0]
    if sort == "member":
        return _told_member(word, parts, edition)
    if sort == "set":
        return _told_set(word, parts, edition)
    if sort == "truth":
        return _told_truth(word, parts)
    return _told_number_or_text(word, parts[0])


def looked_up(deed, edition, fallbacks):
    """The member or set with the name or number in a deed, None if there is none."""
    word, name = deed
    if word == "numbered":
        return _member_numbered(edition, name)
    if word == "set":
        return edition.group(name) if name in edition.sets else None
    if word == "entry" and name not in edition:
        name = fallbacks.get(name)
    return edition[name] if name in edition else None


def _member_numbered(edition, number):
    """The member with a number, None if there is none."""
    try:
        return edition.numbered(number)
    except NoMember:
        return None


def _told_member(word, parts, edition):
    """The member at an end of a set or of the edition, or beside a member; None if there is none."""
    names = edition.names
    if word == "next":
        names = names[parts[0].place + 1:]
    elif word == "previous":
        names = names[:parts[0].place]
    elif parts:
        names = parts[0].names
    if not names:
        return None
    return edition[names[0] if word in ("first", "next") else names[-1]]


def _told_set(word, parts, edition):
    """The set that a deed makes of a member or of sets."""
    if word == "all":
        return edition.everything()
    if word == "only":
        return Group(edition, [parts[0].place])
    one, other = parts
    if word == "or":
        return one | other
    if word == "and":
        return one & other
    return one - other


def _told_truth(word, parts):
    """What a deed says of members and sets."""
    if word == "empty":
        return not parts[0]
    one, other = parts
    if word == "is":
        return one == other
    if word == "less":
        return one.before(other)
    return one in other


def _told_number_or_text(word, part):
    """The size of a set, or the place, number or name of a member."""
    if word == "size":
        return len(part)
    if word == "place":
        return part.place
    if word == "number":
        return part.number
    return part.name
