"""Later editions by a rule of growth, and whether callers answer alike in all of them."""

from growlists.callers import answer, as_answer, deeds_of, is_written_for, looked_up
from growlists.checks import LETTERS
from growlists.editions import FARTHEST_NUMBER, MOST_MEMBERS, Edition
from growlists.errors import BadCaller, BadRule

# Stands in a line for all new members that may stand there and that no deed has touched.
GAP = -1


def is_later(edition, later, rule):
    """Whether an edition is a later edition of another one by a rule."""
    _check_rule(edition, rule)
    where, grown = rule
    return _has_members_of(edition, later, where) and _has_sets_of(edition, later, grown)


def lasts(edition, caller, rule):
    """None if a caller lasts, otherwise a later edition with the fewest new members in which it answers otherwise."""
    if not _is_written_without_entries(caller, edition):
        raise BadCaller(caller)
    _check_rule(edition, rule)
    growth = Growth(edition, rule)
    elder = answer(caller, edition)
    lines = [line for told, line in growth.cases(caller, growth.line) if as_answer(told) != elder]
    return growth.edition_of(min(lines, key=_members_in)) if lines else None


def _check_rule(edition, rule):
    """Raise an error for any value that is not a rule of growth for an edition."""
    if not isinstance(rule, tuple) or len(rule) != 2:
        raise BadRule(rule)
    where, grown = rule
    if where not in ("end", "any") or not isinstance(grown, list):
        raise BadRule(rule)
    if not all([name in edition.sets for name in grown]):
        raise BadRule(rule)


def _is_written_without_entries(value, edition):
    """Whether any value is a caller that is written for an edition and has no entries."""
    deeds = deeds_of(value)
    if deeds is None or any([deed[0] == "entry" for deed in deeds]):
        return False
    return is_written_for(value, edition)


def _has_members_of(edition, later, where):
    """Whether a later edition has all members of an edition, and new ones without aliases where they may stand."""
    old = [name for name in later.names if name in edition.names]
    if old != edition.names or (where == "end" and later.names[:len(old)] != old):
        return False
    if not all([_look_alike(edition[name], later[name]) for name in old]):
        return False
    return all([later[name].aliases == () for name in later.names if name not in old])


def _look_alike(one, other):
    """Whether two members of the same name have the same aliases and number."""
    return one.aliases == other.aliases and one.number == other.number


def _has_sets_of(edition, later, grown):
    """Whether a later edition has just the named sets of an edition, with new members in the grown ones only."""
    if later.sets != edition.sets:
        return False
    for name in edition.sets:
        within = later.group(name).names
        old = [member for member in within if member in edition.names]
        if old != edition.group(name).names or (name not in grown and within != old):
            return False
    return True


# Whether a caller lasts is found by cases. A line stands for all later editions that have certain members, in this
# order, and perhaps further new ones in its gaps. It is a list of tuples (mark, mask). The mark of an old member is its
# place, new members have the marks behind these, and a gap has the mark GAP. The mask says in which of the grown sets
# this member, or each one in this gap, may lie: a lot is a number whose bit j tells whether a member lies in the grown
# set j, and bit t of a mask tells whether the lot t is possible.
#
# A deed splits a line into the cases of what it touches. In a case it tells the same in all editions of the line, but a
# size or a place only in those with nobody in the gaps; that it may be another one is shown by a case with one more new
# member. So if a caller answers otherwise in some edition, it does so in a case with no more new members.
#
# A set is a dict from marks to masks: with which lots a member lies in it. GAP leads to the mask of all other members.


class Growth:
    """The later editions of an edition by a rule."""

    def __init__(self, edition, rule):
        where, grown = rule
        self.edition = edition
        self.grown = sorted(set(grown))
        self.full = (1 << (1 << len(self.grown))) - 1
        self.rows = _rows_by_mark(edition)
        self.line = []
        for place in range(len(edition)):
            if where == "any":
                self.line.append((GAP, self.full))
            self.line.append((place, self.full))
        self.line.append((GAP, self.full))

    def edition_of(self, line):
        """An edition of a line, with nobody in the gaps."""
        # The lowest bit of a mask is one of the lots that are possible.
        chosen = [(mark, mask & -mask) for mark, mask in line if mark != GAP]
        groups = {}
        for name in self.edition.sets:
            lies = self._named_set(name)
            groups[name] = [self.rows[mark][0] for mark, lot in chosen if lot & _mask_of(mark, lies)]
        return Edition([self.rows[mark] for mark, _ in chosen], groups)

    def cases(self, deed, line):
        """What a deed tells in all cases of a line: tuples (told, line), told None if it fails."""
        word = deed[0]
        if word in ("if", "else"):
            return self._cases_of_choice(deed, line)
        if word in ("name", "numbered"):
            return [(looked_up(deed, self.edition, {}).place, line)]
        if word == "set":
            return [(self._named_set(deed[1]), line)]
        found = []
        for parts, after in self._cases_of_parts(deed[1:], line):
            if any([part is None for part in parts]):
                found.append((None, after))
            else:
                found.extend(self._cases_of_word(word, parts, after))
        return found

    def _cases_of_choice(self, deed, line):
        """What "if" or "else" tells, in all cases."""
        found = []
        for told, after in self.cases(deed[1], line):
            branch = _branch_of(deed, told)
            found.extend([(told, after)] if branch is None else self.cases(branch, after))
        return found

    def _cases_of_parts(self, deeds, line):
        """What several deeds tell one after the other, as lists, in all cases."""
        found = [([], line)]
        for deed in deeds:
            found = [([*parts, told], last) for parts, after in found for told, last in self.cases(deed, after)]
        return found

    def _cases_of_word(self, word, parts, line):
        """What a deed tells of what the deeds in it tell, in all cases."""
        if word in ("first", "last", "next", "previous"):
            return self._cases_of_member(word, parts, line)
        if word in ("all", "only", "or", "and", "but"):
            return [(self._set_of(word, parts), line)]
        if word == "empty":
            return [(mark is None, after) for mark, after in _cases_of_first(line, parts[0], _members_in(line))]
        if word == "in":
            return _cases_of_lying(line, parts[0], parts[1])
        if word == "size":
            return _cases_of_size(line, parts[0])
        if word == "place":
            return self._cases_of_place(line, parts[0])
        if word == "is":
            return [(parts[0] == parts[1], line)]
        if word == "less":
            return [(_position_of(parts[0], line) < _position_of(parts[1], line), line)]
        return [(self.rows[parts[0]][0 if word == "text" else 2], line)]

    def _cases_of_member(self, word, parts, line):
        """The first or the last member of a set, or the one beside a member, in all cases."""
        fresh = _members_in(line)
        if word in ("last", "previous"):
            line = line[::-1]
        lies = {GAP: self.full}
        start = 0
        if word in ("next", "previous"):
            start = _position_of(parts[0], line) + 1
        elif parts:
            lies = parts[0]
        found = [(mark, [*line[:start], *after]) for mark, after in _cases_of_first(line[start:], lies, fresh)]
        if word in ("last", "previous"):
            return [(mark, after[::-1]) for mark, after in found]
        return found

    def _cases_of_place(self, line, mark):
        """The place of a member, with nobody more before it and with one more."""
        at = _position_of(mark, line)
        heads = [line[:at], *_lines_with_one_more(line[:at], {GAP: self.full}, _members_in(line))]
        return [(_members_in(head), [*head, *line[at:]]) for head in heads]

    def _named_set(self, name):
        """The named set: new members lie in it by their lots if it is a grown one."""
        lies = {GAP: 0}
        if name in self.grown:
            at = self.grown.index(name)
            lies[GAP] = sum([1 << lot for lot in range(1 << len(self.grown)) if (lot >> at) & 1])
        within = self.edition.group(name).names
        for place, member in enumerate(self.edition.names):
            lies[place] = self.full if member in within else 0
        return lies

    def _set_of(self, word, parts):
        """The set that a deed makes of a member or of sets."""
        if word == "all":
            return {GAP: self.full}
        if word == "only":
            return {GAP: 0, parts[0]: self.full}
        one, other = parts
        return {mark: _joined(word, _mask_of(mark, one), _mask_of(mark, other)) for mark in [*one, *other]}


def _rows_by_mark(edition):
    """The members of an edition, and behind them those that may be new, as tuples (name, aliases, number)."""
    rows = [(name, edition[name].aliases, edition[name].number) for name in edition.names]
    numbers = [row[2] for row in rows]
    # Numbers this far away are no sizes and no places, so the number of a new member is no answer of the edition.
    number = FARTHEST_NUMBER
    tries = 0
    while len(rows) < MOST_MEMBERS:
        name = _spelled(tries)
        tries += 1
        if name not in edition:
            while number in numbers:
                number -= 1
            rows.append((name, (), number))
            number -= 1
    return rows


def _spelled(tries):
    """A name for each number from 0 on: a to z, aa to az and so on."""
    name = LETTERS[tries % len(LETTERS)]
    while tries >= len(LETTERS):
        tries = tries // len(LETTERS) - 1
        name = LETTERS[tries % len(LETTERS)] + name
    return name


def _branch_of(choice, told):
    """The deed that tells what a choice tells, once its first one has told something; None if that was it."""
    if choice[0] == "else":
        return choice[2] if told is None else None
    if told is None:
        return None
    return choice[2] if told else choice[3]


def _mask_of(mark, lies):
    """The lots with which a member lies in a set."""
    return lies.get(mark, lies[GAP])


def _joined(word, one, other):
    """What a deed makes of the masks of two sets."""
    if word == "or":
        return one | other
    return one & other if word == "and" else one & ~other


def _members_in(line):
    """How many members a line has; so the next new one has this mark."""
    return len([mark for mark, _ in line if mark != GAP])


def _position_of(mark, line):
    """Where a member stands in a line."""
    return [other for other, _ in line].index(mark)


def _cases_of_first(line, lies, fresh):
    """The first member of a line, or of a part of one, that lies in a set, in all cases; fresh marks a new one."""
    found = []
    passed = []
    for at, (mark, mask) in enumerate(line):
        inside = mask & _mask_of(mark, lies)
        outside = mask ^ inside
        rest = line[at + 1:]
        if inside and mark != GAP:
            found.append((mark, [*passed, (mark, inside), *rest]))
        elif inside and fresh < MOST_MEMBERS:
            before = [(GAP, outside)] if outside else []
            found.append((fresh, [*passed, *before, (fresh, inside), (GAP, mask), *rest]))
        if outside:
            passed.append((mark, outside))
        elif mark != GAP:
            # This one lies in the set with all of its lots, so none behind it is the first.
            return found
    return [*found, (None, passed)]


def _cases_of_lying(line, mark, lies):
    """Whether a member lies in a set, in all cases."""
    at = _position_of(mark, line)
    mask = line[at][1]
    inside = mask & _mask_of(mark, lies)
    cases = [(True, inside), (False, mask ^ inside)]
    return [(told, [*line[:at], (mark, lots), *line[at + 1:]]) for told, lots in cases if lots]


def _cases_of_size(line, lies):
    """The least and the greatest size of a set, with nobody more in it and with one more."""
    found = []
    for after in [line, *_lines_with_one_more(line, lies, _members_in(line))]:
        fewest = [(mark, (mask & ~_mask_of(mark, lies)) or mask) for mark, mask in after]
        most = [(mark, (mask & _mask_of(mark, lies)) or mask) for mark, mask in after]
        found.extend([(_size_in(fewest, lies), fewest), (_size_in(most, lies), most)])
    return found


def _size_in(line, lies):
    """How many members of a line lie in a set with all of their lots."""
    return len([mark for mark, mask in line if mark != GAP and (mask & ~_mask_of(mark, lies)) == 0])


def _lines_with_one_more(line, lies, fresh):
    """The lines with one more new member in a set, in each gap where there may be one."""
    if fresh == MOST_MEMBERS:
        return []
    return [
        [*line[:at], (fresh, mask & _mask_of(mark, lies)), *line[at:]]
        for at, (mark, mask) in enumerate(line) if mark == GAP and mask & _mask_of(mark, lies)
    ]
