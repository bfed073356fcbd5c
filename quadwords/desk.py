"""The desk: named tables and perhaps a mill, asked by rows of words."""

from quadwords.bases import basis
from quadwords.counts import share, stuck
from quadwords.errors import NoMill, NoName, NoRow
from quadwords.free import twins
from quadwords.graphs import closes, graph_of, index, rank
from quadwords.hulls import hull
from quadwords.mills import Mill
from quadwords.plain import word_of
from quadwords.roots import root_of, turner
from quadwords.rows import least_row, many_rows
from quadwords.tables import product
from quadwords.texts import read_table, table_text
from quadwords.wide import wide_word

SMALL_LETTERS = "abcdefghijklmnopqrstuvwxyz"
LONGEST_NAME = 8

# By a row's first word, what follows: `new`, a name that needn't stand; `kept`, one that stands; `name`, one that
# stands for its table; `names`, one such or more; `table`, a written table.
FORMS = {
    "put": "new table", "drop": "kept", "names": "", "show": "name", "times": "name name", "word": "name",
    "wide": "name", "made": "table names", "ways": "table names", "free": "names", "rank": "names",
    "within": "table names", "basis": "names", "hull": "names", "share": "names", "stuck": "names", "root": "name",
    "kin": "name name", "mill": "names", "feed": "name", "undo": "", "text": "", "now": "", "rests": "",
}
MILL_ROWS = ("feed", "undo", "text", "now", "rests")


def kinds_of(words):
    """What each word of a row behind the first one is to be, or NoRow."""
    if words[0] not in FORMS or "" in words:
        raise NoRow("a row begins with a word that the desk knows, and has one blank between each two words")
    kinds = FORMS[words[0]].split()
    if kinds[-1:] == ["names"]:
        kinds = kinds[:-1] + ["name"] * max(1, len(words) - len(kinds))
    if len(words) != len(kinds) + 1:
        raise NoRow("a row has as many words as its kind asks for")
    return kinds


def check_name(word):
    """NoName where a word is no name."""
    if len(word) > LONGEST_NAME or word.strip(SMALL_LETTERS) != "":
        raise NoName("a name is 1 to 8 small letters")


def thing_of(named, kind, word):
    """What a word of a row stands for, or NoName, or NoText."""
    if kind == "table":
        return read_table(word)
    check_name(word)
    if kind == "new":
        return word
    if word not in named:
        raise NoName("no such name stands")
    return word if kind == "kept" else named[word]


def yes_or_no(truth):
    """A truth, as it is told."""
    return "yes" if truth else "no"


def or_dash(text):
    """A text, as it is told where it may be empty."""
    return text if text else "-"


def row_text(row):
    """A least row, as it is told."""
    return "none" if row is None else or_dash(",".join([str(number) for number in row]))


def tables_text(tables):
    """A list of tables, as it is told."""
    return " ".join([table_text(table) for table in tables]) if tables else "none"


def say_put(desk, things):
    """Answer `put NAME TABLE`."""
    name, table = things
    desk.named[name] = table
    return "ok"


def say_drop(desk, things):
    """Answer `drop NAME`."""
    desk.named.pop(things[0])
    return "ok"


def say_names(desk, things):
    """Answer `names`."""
    return " ".join(sorted(desk.named)) if desk.named else "none"


def say_show(desk, things):
    """Answer `show NAME`."""
    return table_text(things[0])


def say_times(desk, things):
    """Answer `times NAME NAME`."""
    return table_text(product(things[0], things[1]))


def say_word(desk, things):
    """Answer `word NAME`."""
    return or_dash(word_of(things[0]))


def say_wide(desk, things):
    """Answer `wide NAME`."""
    return or_dash(wide_word(things[0]))


def say_made(desk, things):
    """Answer `made TABLE NAME ..`."""
    return row_text(least_row(things[1:], things[0]))


def say_ways(desk, things):
    """Answer `ways TABLE NAME ..`."""
    return str(many_rows(things[1:], things[0]))


def say_free(desk, things):
    """Answer `free NAME ..`."""
    return yes_or_no(twins(things) is None)


def say_rank(desk, things):
    """Answer `rank NAME ..`."""
    states = index(things)
    return f"{rank(things)} -" if states is None else f"{rank(things)} {states}"


def say_within(desk, things):
    """Answer `within TABLE NAME ..`."""
    graph = graph_of(things[1:])
    return yes_or_no(closes(graph, wide_word(things[0])))


def say_basis(desk, things):
    """Answer `basis NAME ..`."""
    return tables_text(basis(things))


def say_hull(desk, things):
    """Answer `hull NAME ..`."""
    return tables_text(hull(things))


def say_share(desk, things):
    """Answer `share NAME ..`."""
    top, bottom = share(things)
    return f"{top}/{bottom}"


def say_stuck(desk, things):
    """Answer `stuck NAME ..`."""
    text = stuck(things)
    return "none" if text is None else text


def say_root(desk, things):
    """Answer `root NAME`."""
    found = root_of(things[0])
    return "none" if found is None else f"{table_text(found[0])} {found[1]}"


def say_kin(desk, things):
    """Answer `kin NAME NAME`."""
    return yes_or_no(turner(things[0], things[1]) is not None)


def say_mill(desk, things):
    """Answer `mill NAME ..`."""
    desk.mill = Mill(things)
    return "ok"


def say_feed(desk, things):
    """Answer `feed NAME`."""
    return str(desk.mill.read(things[0]))


def say_undo(desk, things):
    """Answer `undo`."""
    return str(desk.mill.take_back())


def say_text(desk, things):
    """Answer `text`."""
    return or_dash(desk.mill.text())


def say_now(desk, things):
    """Answer `now`."""
    return f"{desk.mill.ways()} {row_text(desk.mill.least())}"


def say_rests(desk, things):
    """Answer `rests`."""
    rests = desk.mill.rests()
    return ",".join(rests) if rests else "none"


DEEDS = {
    "put": say_put, "drop": say_drop, "names": say_names, "show": say_show, "times": say_times, "word": say_word,
    "wide": say_wide, "made": say_made, "ways": say_ways, "free": say_free, "rank": say_rank, "within": say_within,
    "basis": say_basis, "hull": say_hull, "share": say_share, "stuck": say_stuck, "root": say_root, "kin": say_kin,
    "mill": say_mill, "feed": say_feed, "undo": say_undo, "text": say_text, "now": say_now, "rests": say_rests,
}


class Desk:
    """Named tables, and perhaps a mill."""

    def __init__(self):
        self.named = {}
        self.mill = None

    def say(self, row):
        """Do what a row asks, and tell the answer, or refuse it."""
        if not isinstance(row, str):
            raise NoRow("a row is a text")
        words = row.split(" ")
        kinds = kinds_of(words)
        things = [thing_of(self.named, kind, word) for kind, word in zip(kinds, words[1:])]
        if words[0] in MILL_ROWS and self.mill is None:
            raise NoMill("the desk has no mill yet")
        deed = DEEDS[words[0]]
        return deed(self, things)
