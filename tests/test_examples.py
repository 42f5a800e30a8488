"""The examples of the document, to the letter."""

import unittest

SETUP = """
from growlists.editions import Edition
from growlists.callers import answer, is_caller, is_written_for, kinds_of, size_of
from growlists.newer import lost_name, new_members
elder = Edition([("low", (), 1), ("mid", ("normal",), 5), ("high", (), 9)], {"busy": ["mid", "high"]})
newer = Edition([("low", (), 1), ("mid", ("normal",), 5), ("high", (), 9), ("top", (), 12)], {"busy": ["mid", "high", "top"]})
caller = ("text", ("next", ("name", "normal")))
"""

EDITIONS = [
    ("""[elder["normal"].name, elder["low"].before(elder["high"]), elder["mid"].next().number, elder.numbered(1).place]""",
     """['mid', True, 9, 0]"""),
    ("""[(elder.everything() - elder.group("busy")).names, elder["mid"] in elder.group("busy"), elder.sets, len(elder)]""",
     """[['low'], True, ['busy'], 3]"""),
    ("""elder["high"].next()""", """raises NoNeighbour('high')"""),
    ("""Edition([("a", (), 1), ("b", ("a",), 2)])""", """raises BadMember(1)"""),
]

CALLERS = [
    ("""[answer(caller, elder), size_of(caller), kinds_of(caller), is_written_for(caller, elder)]""",
     """[('told', 'high'), 3, ['steps', 'text'], True]"""),
    ("""[answer(("is", ("last",), ("name", "high")), elder), answer(("number", ("next", ("last",))), elder)]""",
     """[('told', True), ('fails',)]"""),
    ("""[answer(("size", ("but", ("all",), ("set", "busy"))), elder), is_caller(("next", ("first",)))]""",
     """[('told', 1), False]"""),
]

NEWER = [
    ("""[lost_name(elder, newer), lost_name(newer, elder), new_members(elder, newer)]""", """[None, 'top', ['top']]"""),
]


def shown(source):
    """What the document shows for an expression."""
    names = {}
    exec(SETUP, names)
    try:
        return repr(eval(source, names))
    except ValueError as error:
        (value,) = vars(error).values()
        return f"raises {type(error).__name__}({value!r})"


class Examples(unittest.TestCase):
    def check(self, examples):
        for source, told in examples:
            with self.subTest(source):
                self.assertEqual(shown(source), told)

    def test_editions(self):
        self.check(EDITIONS)

    def test_callers(self):
        self.check(CALLERS)

    def test_newer(self):
        self.check(NEWER)
