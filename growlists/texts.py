"""Editions as texts."""

from growlists.editions import Edition
from growlists.errors import BadText, GrowError

# As many as 10 ** 9 has.
MOST_DIGITS = 10


def edition_text(edition):
    """The text of an edition."""
    members = [edition[name] for name in edition.names]
    lines = [["member", member.name, str(member.number), *member.aliases] for member in members]
    lines.extend([["set", name, *edition.group(name).names] for name in edition.sets])
    return "\n".join([" ".join(words) for words in lines])


def read_edition(text):
    """The edition with a text, which any value may turn out not to be."""
    if not isinstance(text, str):
        raise BadText(1)
    lines = text.split("\n")
    # The first lines of a text are a text themselves, so each line has to make one of those before it.
    edition = None
    for many in range(1, len(lines) + 1):
        edition = _edition_in(lines[:many])
        if edition is None:
            raise BadText(many)
    return edition


def _edition_in(lines):
    """The edition whose text these lines are, None if they are none."""
    members = []
    groups = {}
    for line in lines:
        word, *words = line.split(" ")
        if word == "member" and len(words) >= 2:
            name, digits, *aliases = words
            members.append((name, tuple(aliases), _number_of(digits)))
        elif word == "set" and words:
            groups[words[0]] = words[1:]
        else:
            return None
    try:
        edition = Edition(members, groups)
    except GrowError:
        return None
    # Whatever is right but not written as in a text, such as 007 or sets in another sequence, is written anew here.
    return edition if edition_text(edition) == "\n".join(lines) else None


def _number_of(word):
    """The number that a word of a text is, None if it is none or too long a one."""
    digits = word[1:] if word.startswith("-") else word
    if not digits.isdecimal() or len(digits) > MOST_DIGITS:
        return None
    return int(word)
