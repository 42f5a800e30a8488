"""The examples of the document, to the letter."""

import unittest

SETUP = """
from growlists.editions import Edition
from growlists.callers import answer, is_caller, is_written_for, kinds_of, size_of
from growlists.newer import lost_name, new_members
from growlists.pairs import reached
from growlists.keeping import is_evidence, kept
from growlists.shortest import shortest
from growlists.safety import greatest, safe_fallbacks
from growlists.later import is_later, lasts
from growlists.posts import Post
from growlists.rows import losing_row, lost_on, through
from growlists.texts import edition_text, read_edition
elder = Edition([("low", (), 1), ("mid", ("normal",), 5), ("high", (), 9)], {"busy": ["mid", "high"]})
newer = Edition([("low", (), 1), ("mid", ("normal",), 5), ("high", (), 9), ("top", (), 12)], {"busy": ["mid", "high", "top"]})
caller = ("text", ("next", ("name", "normal")))
"""

EDITIONS = [
    ("""[elder["normal"].name, elder["low"].before(elder["high"]), elder["mid"].next().number, elder.numbered(1).place]""",
     """['mid', True, 9, 0]"""),
    ("""[(elder.everything() - elder.group("busy")).names, elder["mid"] in elder.group("busy"), elder.sets, len(elder)]""",
     """[['low'], True, ['busy'], 3]"""),
    ("""elder["high"].next()""", """raises NoNeighbour('high')"""),
    ("""Edition([("a", (), 1), ("b", ("a",), 2)])""", """raises BadMember(1)"""),
]

CALLERS = [
    ("""[answer(caller, elder), size_of(caller), kinds_of(caller), is_written_for(caller, elder)]""",
     """[('told', 'high'), 3, ['steps', 'text'], True]"""),
    ("""[answer(("is", ("last",), ("name", "high")), elder), answer(("number", ("next", ("last",))), elder)]""",
     """[('told', True), ('fails',)]"""),
    ("""[answer(("size", ("but", ("all",), ("set", "busy"))), elder), is_caller(("next", ("first",)))]""",
     """[('told', 1), False]"""),
]

NEWER = [
    ("""[lost_name(elder, newer), lost_name(newer, elder), new_members(elder, newer)]""", """[None, 'top', ['top']]"""),
]

PAIRS = [
    ("""reached(elder, newer, ["is", "ends"])""",
     """([('low', 'low'), ('mid', 'mid'), ('high', 'high'), ('high', 'top')], [])"""),
    ("""reached(elder, newer, ["is"], names=["low"], fallbacks={"top": "high"})""",
     """([('low', 'low'), ('high', 'top')], [])"""),
    ("""reached(elder, newer, ["less", "all"])""",
     """([('low', 'low'), ('mid', 'mid'), ('high', 'high')], [(('low', 'mid', 'high'), ('low', 'mid', 'high', 'top'))])"""),
    ("""[reached(elder, newer, ["is", "steps"]), reached(elder, newer, ["sets", "all"])[1]]""",
     """[None, [(('low',), ('low',)), (('mid', 'high'), ('mid', 'high', 'top'))]]"""),
    ("""reached(elder, newer, ["sets", "only"])[1]""",
     """[((), ('top',)), (('low',), ('low',)), (('mid',), ('mid',)), (('high',), ('high',))]"""),
]

KEEPING = [
    ("""[kept(elder, newer, kinds) for kinds in (["is", "less"], ["is", "ends"], ["sets", "all"], ["sets", "only"], """
     """["less", "all"], ["all", "counts"])]""",
     """[True, False, True, False, True, False]"""),
    ("""[kept(elder, newer, ["number", "ends"]), kept(elder, newer, ["is"], fallbacks={"top": "high"}), """
     """kept(elder, newer, ["text"])]""",
     """[False, False, True]"""),
    ("""is_evidence(elder, newer, ["is"], ([("low", "low"), ("mid", "mid"), ("high", "high")], []))""", """True"""),
]

SHORTEST = [
    ("""[size_of(shortest(elder, newer, ["is", "ends"])), shortest(elder, newer, ["all", "counts"]), """
     """shortest(elder, newer, ["less"])]""",
     """[3, ('size', ('all',)), None]"""),
]

SAFETY = [
    ("""greatest(elder, newer, ["less", "all", "ends", "counts"])""", """[['less', 'all'], ['less', 'counts']]"""),
    ("""[safe_fallbacks(elder, newer, ["is"]), safe_fallbacks(elder, elder, ["is"])]""", """[[], [{}]]"""),
    ("""[safe_fallbacks(elder, newer, ["sets", "all"]), safe_fallbacks(elder, newer, ["sets", "is"], names=["mid"])]""",
     """[[{'top': 'mid'}, {'top': 'high'}], [{'top': 'high'}]]"""),
    ("""safe_fallbacks(elder, newer, ["less"], names=["low"])""", """[{'top': 'mid'}, {'top': 'high'}]"""),
]

LATER = [
    ("""[lasts(elder, ("less", ("name", "low"), ("name", "mid")), ("any", [])), """
     """len(lasts(elder, ("text", ("last",)), ("end", [])))]""",
     """[None, 4]"""),
    ("""[lasts(elder, ("text", ("next", ("name", "low"))), ("end", [])), """
     """len(lasts(elder, ("text", ("next", ("name", "low"))), ("any", [])))]""",
     """[None, 4]"""),
    ("""[len(found), is_later(elder, found, ("end", [])), lasts(elder, ("size", ("set", "busy")), ("any", []))]""",
     """[5, True, None]"""),
]

LATER_BEFORE = """
found = lasts(elder, ("number", ("next", ("next", ("name", "high")))), ("end", []))
"""

POSTS = [
    ("""[post.hand("shop", "till", 0), post.hand("shop", "bin", 0), post.hand("till", "shop", 0), """
     """post.hand("shop", "till", 1)]""",
     """[('unknown', 'number', 12), 'low', None, 'mid']"""),
    ("""[post.held("till"), post.upgrade("till", newer), post.held("till"), post.hand("till", "shop", 0), """
     """post.held("shop")]""",
     """[[('unknown', 'number', 12), 'mid'], None, ['top', 'mid'], 'top', ['top', 'mid', 'top']]"""),
]

POSTS_BEFORE = """
post = Post()
told = [post.add("shop", newer, wire="name"), post.add("till", elder, manner="keep"), post.add("bin", elder, manner="fall")]
told = [post.put("shop", "top"), post.put("shop", "normal")]
"""

ROWS = [
    ("""[through(post, ["shop", "till", "shop"], "top"), through(post, ["shop", "bin"], "top"), """
     """lost_on(post, ["shop", "bin", "till", "shop"])]""",
     """['top', 'low', ['top']]"""),
    ("""[losing_row(post, "shop"), losing_row(post, "till"), losing_row(post, "bin")]""",
     """[['shop', 'bin', 'shop'], None, None]"""),
]

ROWS_BEFORE = """
post = Post()
told = [post.add("shop", newer), post.add("till", elder, manner="keep"), post.add("bin", elder, manner="fall")]
"""

TEXTS = [
    ("""edition_text(elder)""",
     """'member low 1\\nmember mid 5 normal\\nmember high 9\\nset busy mid high'"""),
    ("""read_edition(edition_text(elder)) == elder""", """True"""),
    ("""read_edition("member low 1\\nset busy low\\nmember mid 5")""", """raises BadText(3)"""),
]


def names_after(before):
    """The names that an example uses, once the lines before it have run."""
    names = {}
    exec(SETUP + before, names)
    return names


def shown(source, names):
    """What the document shows for an expression."""
    try:
        return repr(eval(source, names))
    except ValueError as error:
        (value,) = vars(error).values()
        return f"raises {type(error).__name__}({value!r})"


class Examples(unittest.TestCase):
    def check(self, examples, before=""):
        names = names_after(before)
        for source, told in examples:
            with self.subTest(source):
                self.assertEqual(shown(source, names), told)

    def test_editions(self):
        self.check(EDITIONS)

    def test_callers(self):
        self.check(CALLERS)

    def test_newer(self):
        self.check(NEWER)

    def test_pairs(self):
        self.check(PAIRS)

    def test_keeping(self):
        self.check(KEEPING)

    def test_shortest(self):
        self.check(SHORTEST)

    def test_safety(self):
        self.check(SAFETY)

    def test_later(self):
        self.check(LATER, LATER_BEFORE)

    def test_posts(self):
        self.check(POSTS, POSTS_BEFORE)

    def test_rows(self):
        self.check(ROWS, ROWS_BEFORE)

    def test_texts(self):
        self.check(TEXTS)
