"""Editions and other values that several tests use."""

from growlists.editions import Edition


def elder():
    return Edition(
        [("low", (), 1), ("mid", ("normal",), 5), ("high", (), 9)],
        {"busy": ["mid", "high"]},
    )


def newer():
    return Edition(
        [("low", (), 1), ("mid", ("normal",), 5), ("high", (), 9), ("top", (), 12)],
        {"busy": ["mid", "high", "top"]},
    )


def elder_rows():
    return [("low", (), 1), ("mid", ("normal",), 5), ("high", (), 9)]


def twice_over(value, many=30):
    """A small value that is endless when it is walked: each tuple stands twice in the next one."""
    for _ in range(many):
        value = ("or", value, value)
    return value


def other_values():
    """Values of all kinds that are no list, tuple, dict or string of use to anyone."""
    edition = elder()
    return [
        0, 1, -1, 5, 10 ** 59, True, False, None, "", " ", "\n", "Low", "low ", "~", "longnamed", (), ("low",), [],
        ["low"], [[]], {}, {"low": "mid"}, {1: [2, {"a": (None,)}]}, ((((),),),), ("name", "low"), twice_over(("all",)),
        edition, edition["low"], edition.everything(), [edition], (edition["mid"],), {"busy": edition.group("busy")},
    ]


def edition_of(words, sets=None, numbers=None):
    """An edition from words like "low mid,normal high", with the numbers 1, 2, 3 .. if no others are given."""
    rows = []
    for place, word in enumerate(words.split()):
        name, *aliases = word.split(",")
        rows.append((name, tuple(aliases), numbers[place] if numbers else place + 1))
    return Edition(rows, sets)


def swapped():
    """Two editions whose sets have one member each, which change their order."""
    sets = {"s": ["a"], "t": ["b"]}
    return edition_of("p a b q", sets), edition_of("p b a q", sets)
