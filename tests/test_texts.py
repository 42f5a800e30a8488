"""Texts of editions: edition_text and read_edition."""

import random
import re
import unittest

from growlists.editions import Edition
from growlists.errors import BadText
from growlists.texts import edition_text, read_edition
from tests.growth import rows_of, sets_of
from tests.samples import elder, other_values

WHOLE = """member low -5 base
member mid 0 a normal z
member high 1000000000
set busy mid high
set none
set where low high"""


def whole():
    return Edition(
        [("low", ("base",), -5), ("mid", ("z", "a", "normal"), 0), ("high", (), 10 ** 9)],
        {"where": ["high", "low"], "busy": ["mid", "high"], "none": []},
    )


def is_text(lines):
    """Whether lines are the text of an edition, by another way than to make one of them."""
    words, numbers, names, sets = [], [], [], []
    for line in lines:
        member = re.fullmatch(r"member ([a-z]{1,8}) (0|-?[1-9][0-9]{0,9})((?: [a-z]{1,8})*)", line)
        named = re.fullmatch(r"set ([a-z]{1,8})((?: [a-z]{1,8})*)", line)
        if member and not sets:
            aliases = member[3].split()
            if aliases != sorted(aliases) or abs(int(member[2])) > 10 ** 9:
                return False
            names.append(member[1])
            words += [member[1], *aliases]
            numbers.append(member[2])
        elif named:
            within = named[2].split()
            if any(name not in names for name in within):
                return False
            places = [names.index(name) for name in within]
            if places != sorted(set(places)) or (sets and named[1] <= sets[-1]):
                return False
            sets.append(named[1])
        else:
            return False
    if len(words) > len(set(words)) or len(numbers) > len(set(numbers)):
        return False
    return 1 <= len(names) <= 16 and len(sets) <= 3


def bad_line(text):
    """The line that has to be told for a string, None if it is the text of an edition."""
    lines = text.split("\n")
    for many in range(1, len(lines) + 1):
        if not is_text(lines[:many]):
            return many
    return None


def edition_by_chance(chance, members=None):
    words = sorted({"".join(chance.choice("abz") for _ in range(chance.choice([1, 2, 3, 8]))) for _ in range(60)})
    chance.shuffle(words)
    many = members or chance.randint(1, 16)
    numbers = chance.sample([*range(-20, 20), 10 ** 9, -10 ** 9, 10 ** 8, 123456789, -987654321], many)
    rows = [[words.pop(), [], number] for number in numbers]
    for _ in range(chance.choice([0, 1, 5])):
        chance.choice(rows)[1].append(words.pop())
    names = [row[0] for row in rows]
    sets = {}
    for _ in range(chance.randint(0, 3)):
        word = chance.choice([*names, words.pop()])
        sets[word] = chance.sample(names, chance.choice([0, 1, many // 2, many]))
    return Edition([(name, tuple(aliases), number) for name, aliases, number in rows], sets)


class Written(unittest.TestCase):
    def check(self, edition, text):
        self.assertEqual(edition_text(edition), text)
        read = read_edition(text)
        self.assertIsInstance(read, Edition)
        self.assertTrue(read == edition)
        self.assertEqual((rows_of(read), sets_of(read)), (rows_of(edition), sets_of(edition)))
        self.assertEqual(edition_text(read), text)

    def test_one_member(self):
        self.check(Edition([("a", (), 0)]), "member a 0")
        self.check(Edition([("abcdefgh", (), -1)]), "member abcdefgh -1")
        self.check(Edition([("a", ("b",), 7)], {"a": []}), "member a 7 b\nset a")
        self.check(Edition([("a", (), 10 ** 9)], {"s": ["a"]}), "member a 1000000000\nset s a")
        self.check(Edition([("a", (), -10 ** 9)], {}), "member a -1000000000")
        self.check(Edition([("member", ("set",), 1)], {"set": ["member"], "member": []}),
                   "member member 1 set\nset member\nset set member")

    def test_aliases_ascending(self):
        self.check(Edition([("m", ("z", "aa", "a", "n", "b"), 3)]), "member m 3 a aa b n z")

    def test_members_in_their_order(self):
        self.check(Edition([("z", (), 9), ("a", (), -3), ("m", (), 4)]), "member z 9\nmember a -3\nmember m 4")

    def test_sets_ascending_and_their_members_in_order(self):
        self.check(Edition([("z", (), 1), ("a", (), 2)], {"t": ["a", "z"], "s": ("a",), "b": []}),
                   "member z 1\nmember a 2\nset b\nset s a\nset t z a")

    def test_whole(self):
        self.check(whole(), WHOLE)

    def test_sixteen_members(self):
        names = [word * 2 for word in "ponmlkjihgfedcba"]
        rows = [(name, (), number - 8) for number, name in enumerate(names)]
        lines = [f"member {name} {number - 8}" for number, name in enumerate(names)]
        self.check(Edition(rows), "\n".join(lines))
        self.check(Edition(rows, {"every": names}), "\n".join([*lines, "set every " + " ".join(names)]))
        rows = [(name, (name + "y", name + "x"), number) for name, _, number in rows]
        lines = [f"{line} {name}x {name}y" for line, name in zip(lines, names)]
        self.check(Edition(rows, {"one": ["bb", "oo"], "two": [], "any": names[::-1]}),
                   "\n".join([*lines, "set any " + " ".join(names), "set one oo bb", "set two"]))

    def test_by_chance(self):
        for seed in range(300):
            edition = edition_by_chance(random.Random(seed))
            text = edition_text(edition)
            self.assertIsNone(bad_line(text))
            self.check(edition, text)

    def test_each_beginning_is_a_text(self):
        for seed in range(60):
            lines = edition_text(edition_by_chance(random.Random(seed))).split("\n")
            for many in range(1, len(lines) + 1):
                text = "\n".join(lines[:many])
                self.check(read_edition(text), text)

    def test_the_edition_stays_as_it_was(self):
        edition = whole()
        edition_text(edition)
        self.assertEqual((rows_of(edition), sets_of(edition)), (rows_of(whole()), sets_of(whole())))


class Wrong(unittest.TestCase):
    def check(self, text, line):
        with self.subTest(text):
            with self.assertRaises(BadText) as caught:
                read_edition(text)
            self.assertTrue(type(caught.exception) is BadText)
            self.assertTrue(type(caught.exception.line) is int)
            self.assertEqual(caught.exception.line, line)


class NoStrings(Wrong):
    def test_other_values(self):
        for value in other_values():
            self.check(value, 1)
        for value in ([WHOLE], (WHOLE,), WHOLE.split("\n"), {WHOLE: 1}, whole(), None, 1, True):
            self.check(value, 1)


MEMBERS = [
    # Each line is wrong for itself, wherever it stands.
    "", " ", "member", "member ", "member x", "member x ", "member  77", "member x 77 ", " member x 77",
    "member  x 77",
    "member x  77", "member x 77  y", "member x 77 y ", "member 77 x", "members x 77", "Member x 77", "memberx 77",
    "member X 77", "member x1 77", "member longnamed 77", "member x-y 77", "member x, 77", "member x 77 Y",
    "member x 77 longnamed", "member x 77 y2", "member x 77 8", "member x 77 y 8",
    "member x -0", "member x +1", "member x +0", "member x 007", "member x 00", "member x 01", "member x -07",
    "member x --7", "member x -", "member x +", "member x 7-", "member x 1.0", "member x 1e3", "member x 1_000",
    "member x 7a", "member x a7", "member x 0x7", "member x 1000000001", "member x -1000000001",
    "member x 9999999999", "member x 10000000000",
    "member x " + "9" * 60, "member x -" + "1" * 5000, "member x 0000000007", "member x 00000000077",
    "member x 77 x", "member x 77 y y", "member x 77 z y", "member x 77 y xa", "member x 77 xa y xb",
    "set", "set ", "set  ", " set s", "set  s", "set S", "set s1", "set longnamed", "sets s", "set s ", "set s  low",
    "set s none", "set s x", "set 1", "Set s", "SET s", "se s", "edition", "member\tx\t77", "low", "~", "None",
]

LATER_MEMBERS = [
    # Each of these is wrong behind WHOLE's first member, "member low -5 base".
    "member low 77", "member base 77", "member x 77 low", "member x 77 base", "member x 77 a low", "member x -5",
    "member low -5 base", "set s base", "set s low low", "set s low mid", "set low base",
]

SETS = [
    # Each of these is wrong behind WHOLE's members, and behind its first set.
    "set s normal", "set s base", "set s mid low", "set s high mid", "set s high low", "set s mid mid",
    "set s low mid low", "set s low  mid", "set s low mid ", "set s low mid highs", "set s low,mid",
    "set s busy", "set s s",
]

LATER_SETS = ["set busy", "set busy mid high", "set busx", "set a low", "set", "member x 77", "set b mid"]


class Lines(Wrong):
    def test_the_first_line(self):
        for line in [*MEMBERS, "set s", "set low", "set s low"]:
            self.check(line, 1)
            self.check(line + "\nmember low 1", 1)
            self.check(line + "\n" + WHOLE, 1)
            self.check("\n".join([line, *WHOLE.split("\n")[1:]]), 1)

    def test_a_middle_line(self):
        lines = WHOLE.split("\n")
        for line in [*MEMBERS, *LATER_MEMBERS]:
            self.check("\n".join([lines[0], line, *lines[1:]]), 2)
            self.check("\n".join([lines[0], line, *lines[2:]]), 2)
        for line in [*MEMBERS, *LATER_SETS]:
            self.check("\n".join([*lines[:4], line, *lines[4:]]), 5)
            self.check("\n".join([*lines[:4], line, *lines[5:]]), 5)
        for line in SETS:
            self.check("\n".join([*lines[:3], line, *lines[3:]]), 4)
            self.check("\n".join([*lines[:4], line, *lines[4:]]), 5)

    def test_the_last_line(self):
        lines = WHOLE.split("\n")
        for line in [*MEMBERS, *LATER_MEMBERS]:
            self.check("\n".join([lines[0], line]), 2)
        for line in [*MEMBERS, *SETS]:
            self.check("\n".join([*lines[:3], line]), 4)
        for line in [*MEMBERS, *SETS, *LATER_SETS]:
            self.check("\n".join([*lines[:4], line]), 5)
            self.check("\n".join([*lines[:5], line]), 6)
        for line in [*MEMBERS, *SETS, *LATER_SETS, "set z", "set z low", "member x 77"]:
            self.check("\n".join([*lines, line]), 7)

    def test_right_lines_in_these_places(self):
        lines = WHOLE.split("\n")
        read_edition("\n".join([lines[0], "member x 77 y", *lines[1:]]))
        read_edition("\n".join([lines[0], "member busy 77 set", *lines[1:]]))
        read_edition("\n".join([*lines[:3], "set s low mid high"]))
        read_edition("\n".join([*lines[:4], "set busz", "set c"]))


class Texts(Wrong):
    def test_empty(self):
        self.check("", 1)
        self.check(" ", 1)
        self.check("\n", 1)
        self.check("\n\n\n", 1)
        self.check("\n" + WHOLE, 1)

    def test_a_newline_at_the_end(self):
        self.check(WHOLE + "\n", 7)
        self.check(WHOLE + "\n\n", 7)
        self.check("member a 1\n", 2)
        self.check("member a 1\n ", 2)
        self.check("member a 1\n\nmember b 2", 2)
        self.check("member a 1\nset s\n", 3)

    def test_spaces(self):
        for at, line in enumerate(WHOLE.split("\n")):
            for place, sign in enumerate(line + " "):
                if sign == " ":
                    lines = WHOLE.split("\n")
                    lines[at] = line[:place] + " " + line[place:]
                    self.check("\n".join(lines), at + 1)
            lines = WHOLE.split("\n")
            lines[at] = " " + line
            self.check("\n".join(lines), at + 1)

    def test_lines_left_out(self):
        lines = WHOLE.split("\n")
        for at, line in ((0, 5), (1, 3), (2, 3)):
            self.check("\n".join([*lines[:at], *lines[at + 1:]]), line)
        for at in (3, 4, 5):
            read_edition("\n".join([*lines[:at], *lines[at + 1:]]))
        self.check("\n".join(lines[3:]), 1)

    def test_lines_doubled(self):
        lines = WHOLE.split("\n")
        for at in range(6):
            self.check("\n".join([*lines[:at + 1], *lines[at:]]), at + 2)
            self.check("\n".join([*lines, lines[at]]), 7)
            self.check("\n".join([lines[0], *lines]), 2)

    def test_lines_exchanged(self):
        lines = WHOLE.split("\n")
        for at, other, line in (
            (0, 1, None), (0, 2, 4), (1, 2, 4), (0, 3, 1), (1, 3, 2), (2, 3, 3), (2, 5, 3), (3, 4, 5), (4, 5, 6),
            (3, 5, 5),
        ):
            changed = list(lines)
            changed[at], changed[other] = lines[other], lines[at]
            if line is None:
                read_edition("\n".join(changed))
            else:
                self.check("\n".join(changed), line)

    def test_cut_off(self):
        for many in range(len(WHOLE)):
            text = WHOLE[:many]
            line = bad_line(text)
            if line is None:
                self.assertEqual(edition_text(read_edition(text)), text)
            else:
                self.check(text, line)

    def test_seventeen_members(self):
        lines = [f"member {word} {number}" for number, word in enumerate("abcdefghijklmnopqrs")]
        read_edition("\n".join(lines[:16]))
        self.check("\n".join(lines[:17]), 17)
        self.check("\n".join(lines), 17)
        self.check("\n".join([*lines[:17], "set s"]), 17)
        self.check("\n".join([*lines[:16], "set s", lines[16]]), 18)

    def test_four_sets(self):
        lines = ["member a 1", "set a a", "set b", "set c a", "set d", "set e"]
        read_edition("\n".join(lines[:4]))
        self.check("\n".join(lines[:5]), 5)
        self.check("\n".join(lines), 5)
        self.check("\n".join([*lines[:5], ""]), 5)

    def test_the_first_wrong_line_is_told(self):
        self.check("member a 1\nmember a 2\nmember", 2)
        self.check("member a 1\nmember b 1\nset b a", 2)
        self.check("member a 1\nset s b\nmember b 2", 2)
        self.check("member a 01\n\n\n", 1)

    def test_single_signs_changed(self):
        lines_told = set()
        for at in range(len(WHOLE)):
            for sign in " ~\n-+019azA":
                for text in (WHOLE[:at] + sign + WHOLE[at + 1:], WHOLE[:at] + sign + WHOLE[at:]):
                    line = bad_line(text)
                    if line is None:
                        self.assertEqual(edition_text(read_edition(text)), text)
                    else:
                        self.check(text, line)
                    lines_told.add(line)
        self.assertEqual(lines_told, {None, 1, 2, 3, 4, 5, 6, 7})

    def test_by_chance(self):
        seen = {}
        for seed in range(1500):
            chance = random.Random(seed)
            text = self.changed(chance, edition_text(edition_by_chance(chance, chance.choice([1, 2, 3, 5, 16]))))
            line = bad_line(text)
            seen[line] = seen.get(line, 0) + 1
            if line is None:
                self.assertEqual(edition_text(read_edition(text)), text)
            else:
                self.check(text, line)
        self.assertGreater(seen[None], 50)
        self.assertGreater(len(seen), 15)

    def changed(self, chance, text):
        """A text with a word left out, doubled, exchanged or put in, or with a line likewise."""
        lines = [line.split(" ") for line in text.split("\n")]
        at = chance.randrange(len(lines))
        words = lines if chance.random() < 0.3 else lines[at]
        place, other = chance.randrange(len(words)), chance.randrange(len(words))
        way = chance.choice(["out", "twice", "exchange", "in", "join"])
        if way == "out":
            del words[place]
        elif way == "twice":
            words.insert(other, words[place])
        elif way == "exchange":
            words[place], words[other] = words[other], words[place]
        elif way == "in":
            word = chance.choice(["a", "zz", "member", "set", "5", "-5", "", "00"])
            words.insert(place, word if words is not lines else [word])
        else:
            lines.append(chance.choice(lines))
        return "\n".join(" ".join(line) for line in lines)

    def test_argument_by_name(self):
        self.assertEqual(read_edition(text=edition_text(edition=elder())), elder())
