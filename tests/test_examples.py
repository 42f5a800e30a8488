"""The examples of the document, to the letter."""

import unittest

SETUP = """
from growlists.editions import Edition
from growlists.callers import answer, is_caller, is_written_for, kinds_of, size_of
from growlists.newer import lost_name, new_members
from growlists.pairs import reached
from growlists.keeping import is_evidence, kept
from growlists.shortest import shortest
from growlists.safety import greatest, safe_fallbacks
elder = Edition([("low", (), 1), ("mid", ("normal",), 5), ("high", (), 9)], {"busy": ["mid", "high"]})
newer = Edition([("low", (), 1), ("mid", ("normal",), 5), ("high", (), 9), ("top", (), 12)], {"busy": ["mid", "high", "top"]})
caller = ("text", ("next", ("name", "normal")))
"""

EDITIONS = [
    ("""[elder["normal"].name, elder["low"].before(elder["high"]), elder["mid"].next().number, elder.numbered(1).place]""",
     """['mid', True, 9, 0]"""),
    ("""[(elder.everything() - elder.group("busy")).names, elder["mid"] in elder.group("busy"), elder.sets, len(elder)]""",
     """[['low'], True, ['busy'], 3]"""),
    ("""elder["high"].next()""", """raises NoNeighbour('high')"""),
    ("""Edition([("a", (), 1), ("b", ("a",), 2)])""", """raises BadMember(1)"""),
]

CALLERS = [
    ("""[answer(caller, elder), size_of(caller), kinds_of(caller), is_written_for(caller, elder)]""",
     """[('told', 'high'), 3, ['steps', 'text'], True]"""),
    ("""[answer(("is", ("last",), ("name", "high")), elder), answer(("number", ("next", ("last",))), elder)]""",
     """[('told', True), ('fails',)]"""),
    ("""[answer(("size", ("but", ("all",), ("set", "busy"))), elder), is_caller(("next", ("first",)))]""",
     """[('told', 1), False]"""),
]

NEWER = [
    ("""[lost_name(elder, newer), lost_name(newer, elder), new_members(elder, newer)]""", """[None, 'top', ['top']]"""),
]

PAIRS = [
    ("""reached(elder, newer, ["is", "ends"])""",
     """([('low', 'low'), ('mid', 'mid'), ('high', 'high'), ('high', 'top')], [])"""),
    ("""reached(elder, newer, ["is"], names=["low"], fallbacks={"top": "high"})""",
     """([('low', 'low'), ('high', 'top')], [])"""),
    ("""reached(elder, newer, ["less", "all"])""",
     """([('low', 'low'), ('mid', 'mid'), ('high', 'high')], [(('low', 'mid', 'high'), ('low', 'mid', 'high', 'top'))])"""),
    ("""[reached(elder, newer, ["is", "steps"]), reached(elder, newer, ["sets", "all"])[1]]""",
     """[None, [(('low',), ('low',)), (('mid', 'high'), ('mid', 'high', 'top'))]]"""),
    ("""reached(elder, newer, ["sets", "only"])[1]""",
     """[((), ('top',)), (('low',), ('low',)), (('mid',), ('mid',)), (('high',), ('high',))]"""),
]

KEEPING = [
    ("""[kept(elder, newer, kinds) for kinds in (["is", "less"], ["is", "ends"], ["sets", "all"], ["sets", "only"], """
     """["less", "all"], ["all", "counts"])]""",
     """[True, False, True, False, True, False]"""),
    ("""[kept(elder, newer, ["number", "ends"]), kept(elder, newer, ["is"], fallbacks={"top": "high"}), """
     """kept(elder, newer, ["text"])]""",
     """[False, False, True]"""),
    ("""is_evidence(elder, newer, ["is"], ([("low", "low"), ("mid", "mid"), ("high", "high")], []))""", """True"""),
]

SHORTEST = [
    ("""[size_of(shortest(elder, newer, ["is", "ends"])), shortest(elder, newer, ["all", "counts"]), """
     """shortest(elder, newer, ["less"])]""",
     """[3, ('size', ('all',)), None]"""),
]

SAFETY = [
    ("""greatest(elder, newer, ["less", "all", "ends", "counts"])""", """[['less', 'all'], ['less', 'counts']]"""),
    ("""[safe_fallbacks(elder, newer, ["is"]), safe_fallbacks(elder, elder, ["is"])]""", """[[], [{}]]"""),
    ("""[safe_fallbacks(elder, newer, ["sets", "all"]), safe_fallbacks(elder, newer, ["sets", "is"], names=["mid"])]""",
     """[[{'top': 'mid'}, {'top': 'high'}], [{'top': 'high'}]]"""),
    ("""safe_fallbacks(elder, newer, ["less"], names=["low"])""", """[{'top': 'mid'}, {'top': 'high'}]"""),
]


def shown(source):
    """What the document shows for an expression."""
    names = {}
    exec(SETUP, names)
    try:
        return repr(eval(source, names))
    except ValueError as error:
        (value,) = vars(error).values()
        return f"raises {type(error).__name__}({value!r})"


class Examples(unittest.TestCase):
    def check(self, examples):
        for source, told in examples:
            with self.subTest(source):
                self.assertEqual(shown(source), told)

    def test_editions(self):
        self.check(EDITIONS)

    def test_callers(self):
        self.check(CALLERS)

    def test_newer(self):
        self.check(NEWER)

    def test_pairs(self):
        self.check(PAIRS)

    def test_keeping(self):
        self.check(KEEPING)

    def test_shortest(self):
        self.check(SHORTEST)

    def test_safety(self):
        self.check(SAFETY)
