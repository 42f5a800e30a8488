"""Editions of a list of named values, their members and sets of these."""

from growlists.checks import is_integer, is_name
from growlists.errors import BadMember, BadMembers, BadSet, BadSets, NoMember, NoNeighbour, NoSet

MOST_MEMBERS = 16
MOST_SETS = 3
FARTHEST_NUMBER = 10 ** 9


class Member:
    """A member of an edition. Only editions and members make members."""

    def __init__(self, edition, place):
        row = edition._rows[place]
        self.name = row[0]
        self.aliases = row[1]
        self.number = row[2]
        self.place = place
        self._edition = edition

    def __eq__(self, other):
        if not isinstance(other, Member):
            return False
        return self.place == other.place and self._edition == other._edition

    def before(self, other):
        """Whether this member stands before another one of the same edition."""
        return self.place < other.place

    def next(self):
        """The member behind this one."""
        if self.place + 1 == len(self._edition):
            raise NoNeighbour(self.name)
        return Member(self._edition, self.place + 1)

    def previous(self):
        """The member before this one."""
        if self.place == 0:
            raise NoNeighbour(self.name)
        return Member(self._edition, self.place - 1)


class Group:
    """A set of members of an edition, given by their places in ascending order."""

    def __init__(self, edition, places):
        self._edition = edition
        self._places = tuple(places)

    @property
    def names(self):
        """The names of the members in it, in the order of the edition."""
        return [self._edition._rows[place][0] for place in self._places]

    def __len__(self):
        return len(self._places)

    def __bool__(self):
        return bool(self._places)

    def __contains__(self, value):
        if not isinstance(value, Member):
            return False
        return value.place in self._places and value._edition == self._edition

    def __eq__(self, other):
        if not isinstance(other, Group):
            return False
        return self._places == other._places and self._edition == other._edition

    def __or__(self, other):
        places = [*self._places, *other._places]
        return Group(self._edition, [place for place in range(len(self._edition)) if place in places])

    def __and__(self, other):
        return Group(self._edition, [place for place in self._places if place in other._places])

    def __sub__(self, other):
        return Group(self._edition, [place for place in self._places if place not in other._places])


class Edition:
    """Members in an order, each with a name, aliases and a number, and named sets of them."""

    def __init__(self, members, sets=None):
        self._rows = _rows_of(members)
        self._groups = _groups_of(sets, self.names)
        self._places = {word: place for place, row in enumerate(self._rows) for word in (row[0], *row[1])}
        self._numbers = {row[2]: place for place, row in enumerate(self._rows)}

    @property
    def names(self):
        """The names of the members, in their order."""
        return [row[0] for row in self._rows]

    @property
    def sets(self):
        """The names of the named sets, ascending."""
        return sorted(self._groups)

    def __len__(self):
        return len(self._rows)

    def __contains__(self, value):
        return isinstance(value, str) and value in self._places

    def __getitem__(self, name):
        if not isinstance(name, str) or name not in self._places:
            raise NoMember(name)
        return Member(self, self._places[name])

    # Without this, Python would walk an edition by asking for the members 0, 1, 2 ..
    def __iter__(self):
        raise TypeError("an edition is not iterated over: take its names")

    def __eq__(self, other):
        if not isinstance(other, Edition):
            return False
        return self._rows == other._rows and self._groups == other._groups

    def numbered(self, number):
        """The member with a number."""
        if not is_integer(number) or number not in self._numbers:
            raise NoMember(number)
        return Member(self, self._numbers[number])

    def group(self, name):
        """The named set with a name."""
        if not isinstance(name, str) or name not in self._groups:
            raise NoSet(name)
        return Group(self, self._groups[name])

    def everything(self):
        """The set of all members."""
        return Group(self, list(range(len(self._rows))))


def _rows_of(members):
    """The members as tuples (name, aliases ascending, number); any value may be no such list."""
    if not isinstance(members, (list, tuple)) or not 1 <= len(members) <= MOST_MEMBERS:
        raise BadMembers(members)
    rows = []
    taken = {}
    for position, entry in enumerate(members):
        if not _is_entry(entry):
            raise BadMember(position)
        name, aliases, number = entry
        # Names are strings and numbers are integers, so they do not get in each other's way.
        marks = [name, *aliases, number]
        if len(set(marks)) < len(marks) or any([mark in taken for mark in marks]):
            raise BadMember(position)
        for mark in marks:
            taken[mark] = True
        rows.append((name, tuple(sorted(aliases)), number))
    return rows


def _is_entry(value):
    """Whether any value is a tuple (name, aliases, number), apart from what others have."""
    if not isinstance(value, tuple) or len(value) != 3:
        return False
    name, aliases, number = value
    if not is_name(name) or not isinstance(aliases, tuple):
        return False
    if not all([is_name(alias) for alias in aliases]):
        return False
    return is_integer(number) and -FARTHEST_NUMBER <= number <= FARTHEST_NUMBER


def _groups_of(sets, names):
    """The places of the members of each named set, ascending, by its name."""
    if sets is None:
        return {}
    if not isinstance(sets, dict) or len(sets) > MOST_SETS:
        raise BadSets(sets)
    groups = {}
    for key, entry in sets.items():
        if not is_name(key) or not _is_choice(entry, names):
            raise BadSet(key)
        groups[key] = tuple([place for place, name in enumerate(names) if name in entry])
    return groups


def _is_choice(value, names):
    """Whether any value is a list or tuple of different ones of these names."""
    if not isinstance(value, (list, tuple)) or not all([word in names for word in value]):
        return False
    return len(set(value)) == len(value)
