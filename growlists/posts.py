"""Posts: houses that know editions, hold values and hand them to one another."""

from growlists.callers import looked_up
from growlists.checks import is_integer, is_name
from growlists.errors import BadName, BadWords, NameTaken, NoHouse, NotHeld, NotNewer, TooFar
from growlists.newer import lost_name

# The words of deeds that look up what comes over a wire.
WIRES = {"name": "name", "number": "numbered"}
MANNERS = ("refuse", "fall", "keep")


class House:
    """A house of a post. It is never changed: a post takes another one in its place."""

    def __init__(self, edition, wire, manner, stock):
        self.edition = edition
        self.wire = wire
        self.manner = manner
        self.stock = tuple(stock)

    def __eq__(self, other):
        if not isinstance(other, House) or self.edition != other.edition or self.stock != other.stock:
            return False
        return self.wire == other.wire and self.manner == other.manner

    def holding(self, stock):
        """This house with other things that it holds."""
        return House(self.edition, self.wire, self.manner, stock)

    def at(self, position):
        """What this house holds at a position, which may be any value."""
        if not is_integer(position) or not 0 <= position < len(self.stock):
            raise NotHeld(position)
        return self.stock[position]


class Post:
    """Houses with names, which hand values to one another."""

    def __init__(self):
        # Dicts of houses by their names, which are replaced and not changed: each recorded call leaves the former one.
        self._houses = {}
        self._former = []

    def __eq__(self, other):
        if not isinstance(other, Post):
            return False
        return self._houses == other._houses

    @property
    def houses(self):
        """The names of the houses, in the sequence in which they were added."""
        return list(self._houses)

    def house(self, name):
        """The house with a name."""
        if not isinstance(name, str) or name not in self._houses:
            raise NoHouse(name)
        return self._houses[name]

    def add(self, name, edition, *, wire="number", manner="refuse"):
        """Add a house that holds nothing."""
        if not is_name(name):
            raise BadName(name)
        if name in self._houses:
            raise NameTaken(name)
        if wire not in list(WIRES) or manner not in MANNERS:
            raise BadWords((wire, manner))
        self._take(name, House(edition, wire, manner, ()))

    def edition_of(self, name):
        """The edition of a house."""
        return self.house(name).edition

    def held(self, name):
        """What a house holds: names of members, and tuples ("unknown", wire, what)."""
        return list(self.house(name).stock)

    def put(self, name, member):
        """Put a member behind what a house holds."""
        house = self.house(name)
        self._take(name, house.holding([*house.stock, house.edition[member].name]))

    def drop(self, name, position):
        """Take out what stands at a position of a house."""
        house = self.house(name)
        house.at(position)
        self._take(name, house.holding([*house.stock[:position], *house.stock[position + 1:]]))

    def hand(self, giver, getter, position):
        """Hand what a house holds at a position to another one. Return what that one holds then, None if nothing."""
        one = self.house(giver)
        other = self.house(getter)
        got = handed(one.at(position), one, other)
        self._take(getter, other if got is None else other.holding([*other.stock, got]))
        return got

    def upgrade(self, name, edition):
        """Give a house a newer edition."""
        house = self.house(name)
        lost = lost_name(house.edition, edition)
        if lost is not None:
            raise NotNewer(lost)
        stock = [_renewed(value, edition) for value in house.stock]
        self._take(name, House(edition, house.wire, house.manner, stock))

    def undo(self, number):
        """Take back the last so many of the recorded calls."""
        if number > len(self._former):
            raise TooFar(len(self._former))
        if number > 0:
            self._houses = self._former[-number]
            self._former = self._former[:-number]

    def fork(self):
        """A new equal post with the same record."""
        other = Post()
        other._houses = self._houses
        other._former = list(self._former)
        return other

    def _take(self, name, house):
        """Let a house be the one with this name, and record the call."""
        self._former.append(self._houses)
        self._houses = {**self._houses, name: house}


def handed(value, giver, getter):
    """What a house gets of a value that another one holds, None if it is refused."""
    if isinstance(value, tuple):
        _, wire, what = value
        if wire != getter.wire:
            return None
    else:
        member = giver.edition[value]
        what = member.name if getter.wire == "name" else member.number
    name = _name_of(getter.wire, what, getter.edition)
    if name is not None:
        return name
    if getter.manner == "refuse":
        return None
    return getter.edition.names[0] if getter.manner == "fall" else ("unknown", getter.wire, what)


def _name_of(wire, what, edition):
    """The name of the member that an edition knows by what came over a wire, None if it knows none."""
    member = looked_up((WIRES[wire], what), edition, {})
    return None if member is None else member.name


def _renewed(value, edition):
    """What a house holds of a value once it has got an edition that is newer than its own."""
    if not isinstance(value, tuple):
        return edition[value].name
    _, wire, what = value
    name = _name_of(wire, what, edition)
    return value if name is None else name
