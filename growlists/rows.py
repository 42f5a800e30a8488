"""Rows of houses: what becomes of members that go through them, and which ones do not come back."""

from growlists.errors import BadRow
from growlists.posts import handed

MOST_HOUSES = 8


def through(post, row, name):
    """What the last house of a row gets of a member of the first one, None if it is refused on the way."""
    houses = _houses_of(post, row)
    told = (houses[0].edition[name].name,)
    return _carried(told, houses)[0]


def lost_on(post, row):
    """The names of the members of the first house that do not come back on a row."""
    houses = _houses_of(post, row)
    names = houses[0].edition.names
    return _lost_of(names, _carried(names, houses), houses[-1])


def losing_row(post, first, *, most=4):
    """The first one of the shortest rows from a house to itself on which members do not come back, None without one."""
    home = post.house(first)
    names = home.edition.names
    # Rows without their last house, ascending, with what the last one of these houses gets of each member.
    rows = [([first], names)]
    for _ in range(most - 1):
        for row, values in rows:
            if _lost_of(names, _carried(values, [post.house(row[-1]), home]), home):
                return [*row, first]
        rows = _longer_rows(post, rows)
    return None


def _houses_of(post, row):
    """The houses of a row, which any value may turn out not to be."""
    if not isinstance(row, list) or not 2 <= len(row) <= MOST_HOUSES:
        raise BadRow(row)
    if not all([name in post.houses for name in row]):
        raise BadRow(row)
    return [post.house(name) for name in row]


def _carried(values, houses):
    """What the last one of some houses gets of each of the values that the first one has, None for what is refused."""
    for giver, getter in zip(houses, houses[1:]):
        values = [None if value is None else handed(value, giver, getter) for value in values]
    return values


def _lost_of(names, values, last):
    """The names of the members that the last house has not got back, by what it has got of each."""
    known = {name: last.edition[name].name for name in names if name in last.edition}
    return [name for name, value in zip(names, values) if name not in known or known[name] != value]


def _longer_rows(post, rows):
    """The rows with one more house, ascending. Of rows that bring the same to one house the first one is enough."""
    longer = []
    seen = {}
    for row, values in rows:
        for name in post.houses:
            told = _carried(values, [post.house(row[-1]), post.house(name)])
            mark = (name, tuple(told))
            if mark not in seen:
                seen[mark] = True
                longer.append(([*row, name], told))
    return longer
