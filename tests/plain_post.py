"""Another way to what a post does: plain lists, all of which are copied before each call."""

from growlists.editions import Edition
from growlists.errors import BadName, BadWords, NameTaken, NoHouse, NoMember, NotHeld, NotNewer, TooFar


def told_by(edition, what):
    """The name of the member with a name, alias or number, None if there is none."""
    for name in edition.names:
        member = edition[name]
        if what in (member.name, *member.aliases) if isinstance(what, str) else what == member.number:
            return name
    return None


def copied(rows):
    return [[*row[:4], list(row[4])] for row in rows]


class PlainPost:
    def __init__(self):
        self.rows = []
        self.before = []

    def row(self, name):
        for row in self.rows:
            if type(name) is str and row[0] == name:
                return row
        raise NoHouse(name)

    def recorded(self):
        self.before.append(copied(self.rows))

    def houses(self):
        return [row[0] for row in self.rows]

    def add(self, name, edition, wire="number", manner="refuse"):
        if type(name) is not str or not 1 <= len(name) <= 8 or name.strip("abcdefghijklmnopqrstuvwxyz"):
            raise BadName(name)
        if name in self.houses():
            raise NameTaken(name)
        if wire not in ["name", "number"] or manner not in ["refuse", "fall", "keep"]:
            raise BadWords((wire, manner))
        self.recorded()
        self.rows.append([name, edition, wire, manner, []])

    def edition_of(self, name):
        return self.row(name)[1]

    def held(self, name):
        return list(self.row(name)[4])

    def put(self, name, member):
        row = self.row(name)
        told = told_by(row[1], member) if isinstance(member, str) else None
        if told is None:
            raise NoMember(member)
        self.recorded()
        row[4].append(told)

    def check(self, row, position):
        if type(position) is not int or position not in range(len(row[4])):
            raise NotHeld(position)

    def drop(self, name, position):
        row = self.row(name)
        self.check(row, position)
        self.recorded()
        del row[4][position]

    def hand(self, giver, getter, position):
        one, other = self.row(giver), self.row(getter)
        self.check(one, position)
        self.recorded()
        value = one[4][position]
        if isinstance(value, str):
            what = value if other[2] == "name" else one[1][value].number
        elif value[1] == other[2]:
            what = value[2]
        else:
            return None
        got = told_by(other[1], what)
        if got is None and other[3] == "refuse":
            return None
        if got is None:
            got = other[1].names[0] if other[3] == "fall" else ("unknown", other[2], what)
        other[4].append(got)
        return got

    def upgrade(self, name, edition):
        row = self.row(name)
        elder = row[1]
        for old in elder.names:
            for word in (old, *sorted(elder[old].aliases)):
                if told_by(edition, word) is None:
                    raise NotNewer(word)
        for word in sorted(elder.sets):
            if word not in edition.sets:
                raise NotNewer(word)
        self.recorded()
        row[1] = edition
        for at, value in enumerate(row[4]):
            told = told_by(edition, value if isinstance(value, str) else value[2])
            if told is not None:
                row[4][at] = told

    def undo(self, number):
        if number > len(self.before):
            raise TooFar(len(self.before))
        for _ in range(number):
            self.rows = copied(self.before.pop())

    def fork(self):
        other = PlainPost()
        other.rows = copied(self.rows)
        other.before = list(self.before)
        return other

    def all_told(self):
        return sorted((row[0], row[2], row[3], row[4], text_of(row[1])) for row in self.rows)


def text_of(edition):
    """An edition as a plain value."""
    members = [(name, edition[name].aliases, edition[name].number) for name in edition.names]
    return repr((members, [(name, edition.group(name).names) for name in sorted(edition.sets)]))


def edition_by_chance(chance):
    """An edition of few names and numbers, so that several of them know some of the same."""
    names = chance.sample("abcdefghij", chance.randint(1, 5))
    numbers = chance.sample(range(7), len(names))
    spare = chance.sample("klmno", chance.randint(0, 3))
    rows = [[name, [], number] for name, number in zip(names, numbers)]
    for word in spare:
        chance.choice(rows)[1].append(word)
    return Edition([(name, tuple(aliases), number) for name, aliases, number in rows])


def newer_by_chance(chance, edition):
    """An edition that is newer than another one, with names that lead elsewhere and other numbers."""
    words = [word for name in edition.names for word in (name, *edition[name].aliases)]
    free = [word for word in "abcdefghijklmno" if word not in words]
    words += chance.sample(free, min(len(free), chance.randint(0, 3)))
    if chance.random() < 0.5:
        rows = [[name, list(edition[name].aliases)] for name in edition.names]
        rows += [[word, []] for word in words if word not in edition]
    else:
        chance.shuffle(words)
        many = chance.randint(1, len(words))
        rows = [[word, []] for word in words[:many]]
        for word in words[many:]:
            chance.choice(rows)[1].append(word)
    numbers = chance.sample(range(max(12, len(rows))), len(rows))
    return Edition([(name, tuple(aliases), number) for (name, aliases), number in zip(rows, numbers)])
