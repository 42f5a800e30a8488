"""The errors of the package, one class for each kind of failure."""


# The messages do not show the values: a value may be small, but very long when it is written out.
class GrowError(ValueError):
    """The base of all errors of the package."""


class BadMembers(GrowError):
    """The members of an edition are no list or tuple of 1 to 16 entries."""

    def __init__(self, value):
        super().__init__("not a list or tuple of 1 to 16 members")
        self.value = value


class BadMember(GrowError):
    """The entry at a position is no member, or has what an entry before has."""

    def __init__(self, position):
        super().__init__("not a member, or one with a name, alias or number twice")
        self.position = position


class BadSets(GrowError):
    """The named sets of an edition are neither None nor a dict of at most 3."""

    def __init__(self, value):
        super().__init__("not None or a dict with at most 3 sets")
        self.value = value


class BadSet(GrowError):
    """A key is no name of a set, or its entry no list or tuple of members."""

    def __init__(self, value):
        super().__init__("not a name that leads to different names of members")
        self.value = value


class NoMember(GrowError):
    """No member of the edition is told by this value."""

    def __init__(self, value):
        super().__init__("no member is told by this value")
        self.value = value


class NoSet(GrowError):
    """No named set of the edition has this name."""

    def __init__(self, value):
        super().__init__("no set has this name")
        self.value = value


class NoNeighbour(GrowError):
    """The member with this name stands at the end of the order."""

    def __init__(self, name):
        super().__init__("this member has no neighbour there")
        self.name = name


class BadCaller(GrowError):
    """The value is not a caller."""

    def __init__(self, value):
        super().__init__("not a caller")
        self.value = value


class NotNewer(GrowError):
    """An edition lacks this name of the elder one."""

    def __init__(self, name):
        super().__init__("the edition lacks a name of the elder one")
        self.name = name


class BadKinds(GrowError):
    """The value is not a list of kinds."""

    def __init__(self, value):
        super().__init__("not a list of kinds")
        self.value = value


class BadNames(GrowError):
    """The value is neither None nor a list of names of the elder edition."""

    def __init__(self, value):
        super().__init__("not None or a list of different names")
        self.value = value


class BadFallbacks(GrowError):
    """The value is neither None nor a dict that leads new members to elder ones."""

    def __init__(self, value):
        super().__init__("not None or a dict of fallbacks")
        self.value = value


class BadRule(GrowError):
    """The value is not a rule of growth for the edition."""

    def __init__(self, value):
        super().__init__("not a rule of growth")
        self.value = value


class BadName(GrowError):
    """The value is not a name."""

    def __init__(self, value):
        super().__init__("not a name")
        self.value = value


class NameTaken(GrowError):
    """There is a house with this name."""

    def __init__(self, name):
        super().__init__("there is a house with this name")
        self.name = name


class NoHouse(GrowError):
    """No house has this name."""

    def __init__(self, value):
        super().__init__("no house has this name")
        self.value = value


class BadWords(GrowError):
    """The wire or the manner of a house is no such word."""

    def __init__(self, value):
        super().__init__("not a wire and a manner")
        self.value = value


class NotHeld(GrowError):
    """A house holds nothing at this position."""

    def __init__(self, position):
        super().__init__("nothing is held at this position")
        self.position = position


class BadRow(GrowError):
    """The value is not a row of houses of the post."""

    def __init__(self, value):
        super().__init__("not a row of houses")
        self.value = value


class TooFar(GrowError):
    """There are only so many calls to take back."""

    def __init__(self, count):
        super().__init__("there are not so many calls to take back")
        self.count = count


class BadText(GrowError):
    """The text is not that of an edition from this line on."""

    def __init__(self, line):
        super().__init__("not the text of an edition")
        self.line = line
