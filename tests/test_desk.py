"""Point 20: the desk; and point 2, of what quadwords/desk.py takes and tells."""

import itertools
import random
import unittest

from quadwords.bases import basis
from quadwords.counts import share, stuck
from quadwords.desk import Desk
from quadwords.errors import NoBack, NoCount, NoMakers, NoMill, NoName, NoPlain, NoRow, NoText, NoWide, QuadError, TooLong
from quadwords.free import twins
from quadwords.graphs import index, rank
from quadwords.hulls import hull
from quadwords.mills import Mill
from quadwords.plain import table_of
from quadwords.roots import root_of, turner
from quadwords.rows import least_row, many_rows
from quadwords.signed import signed_row
from quadwords.tables import product
from quadwords.texts import read_table, table_text
from quadwords.wide import wide_table

GREAT = 10 ** 200 - 1
# Each row's first word, and how many words may follow: the least, and the most or None.
ROWS = {"put": (2, 2), "drop": (1, 1), "names": (0, 0), "show": (1, 1), "times": (2, 2), "word": (1, 1), "wide": (1, 1),
        "made": (2, None), "ways": (2, None), "free": (1, None), "rank": (1, None), "within": (2, None),
        "basis": (1, None),
        "hull": (1, None), "share": (1, None), "stuck": (1, None), "root": (1, 1), "kin": (2, 2), "mill": (1, None),
        "feed": (1, 1), "undo": (0, 0), "text": (0, 0), "now": (0, 0), "rests": (0, 0)}
WITH_TABLE = ["made", "ways", "within"]
OF_MAKERS = ["free", "hull", "share", "stuck", "mill"]
OF_WIDE_MAKERS = ["rank", "basis"]
OF_MILL = ["feed NAME", "undo", "text", "now", "rests"]
BAD_NAMES = ["A", "ab1", "a_b", "abcdefghi", "abcdefghij", "a-b", "1", "a.", "-", ",", "Ab", "aB", "\n", "a\n", "\na",
             "a\tb", "~",
             "\u00e9", "0", "none!", "ok?", "a" * 4000]
BAD_TABLES = ["1", "1,0,0", "1,0,0,1,0", "1,0,0,+1", "1,0,0,-0", "01,0,0,1", "1,0,0,1\n", "a", "a,b,c,d", ",,,",
              "1" * 201 + ",0,0,1"]
NO_TEXTS = [None, True, False, 0, 7, [], (), ["names"], ("names",), ["put", "a", "1,0,0,1"], [["names"]],
            ("put", ("a", (1, 0, 0, 1))),
            (1, 0, 0, 1), GREAT]


def written(word):
    """A plain word's, or a wide word's, table as a text."""
    return table_text(table_of(word) if word.strip("lr") == "" else wide_table(word))


def desk_of(words):
    """A desk with a name for each word: a, b, c .. in their order."""
    desk = Desk()
    for name, word in zip("abcdefghijklmnop", words):
        desk.say(f"put {name} {written(word)}")
    return desk


def stand(desk):
    """All that a desk has: its names with their tables, and what its mill tells."""
    names = desk.say("names")
    told = [names] + [desk.say(f"show {name}") for name in (names.split(" ") if names != "none" else [])]
    for row in ["text", "now", "rests"]:
        try:
            told.append(desk.say(row))
        except NoMill:
            told.append("no mill")
    return told


class Case(unittest.TestCase):
    def assert_refused(self, desk, row, error):
        before = stand(desk)
        with self.assertRaises(error, msg=repr(row)[:200]) as caught:
            desk.say(row)
        self.assertIs(type(caught.exception), error, repr(row)[:200])
        self.assertEqual(stand(desk), before)

    def assert_said(self, desk, rows):
        for row, answer in rows:
            told = desk.say(row)
            self.assertIsInstance(told, str)
            self.assertEqual(told, answer, row)


class Rows(Case):
    def test_a_written_talk(self):
        desk = Desk()
        self.assert_said(desk, [
            ("names", "none"), ("put a 1,0,1,1", "ok"), ("put b 1,1,0,1", "ok"), ("names", "a b"),
            ("show a", "1,0,1,1"),
            ("times a b", "1,1,1,2"), ("times b a", "2,1,1,1"), ("word a", "l"), ("put one 1,0,0,1", "ok"),
            ("word one", "-"),
            ("wide one", "-"), ("put u 1,2,0,1", "ok"), ("put v 1,0,2,1", "ok"), ("wide u", "u"),
            ("put w 5,2,2,1", "ok"),
            ("wide w", "uv"), ("made 1,1,1,2 a b", "0,1"), ("made 1,0,0,1 a b", "-"), ("made 1,1,0,1 a", "none"),
            ("made 1,1,1,2 b a", "1,0"), ("ways 1,1,1,2 a b", "1"), ("ways 1,0,2,1 a a v", "5"),
            ("ways 1,1,0,1 a", "0"),
            ("free a b", "yes"), ("free a a", "no"), ("free a v", "no"), ("rank u v", "2 1"), ("rank u", "1 -"),
            ("rank one", "0 -"),
            ("within 5,2,2,1 u v", "yes"), ("within 1,0,2,1 u", "no"), ("within 1,0,0,1 u", "yes"),
            ("basis u v", "1,2,0,1 1,0,2,1"),
            ("basis v u", "1,2,0,1 1,0,2,1"), ("basis one", "none"), ("hull a v", "1,0,1,1"),
            ("hull b a", "1,0,1,1 1,1,0,1"),
            ("share a b", "1/1"), ("share a", "1/2"), ("share a v", "3/4"), ("share a a a", "3/2"), ("stuck a", "r"),
            ("stuck a b", "none"),
            ("root u", "1,2,0,1 1"), ("put x 1,8,0,1", "ok"), ("root x", "1,2,0,1 4"), ("root one", "none"),
            ("kin u u", "yes"),
            ("kin u x", "no"), ("kin one one", "yes"), ("mill a b", "ok"), ("text", "-"), ("now", "1 -"),
            ("rests", "l,r"),
            ("feed a", "1"), ("feed b", "2"), ("text", "lr"), ("now", "1 0,1"), ("rests", "l,r"), ("undo", "1"),
            ("text", "l"),
            ("mill v", "ok"), ("text", "-"), ("feed a", "1"), ("now", "0 none"), ("rests", "l"), ("feed b", "2"),
            ("rests", "none"),
            ("undo", "1"), ("undo", "0"), ("drop a", "ok"), ("names", "b one u v w x")])

    def test_names_put_anew_dropped_and_rising(self):
        desk = Desk()
        self.assert_said(desk, [("put zz 1,2,3,4", "ok"), ("put b 0,0,0,0", "ok"), ("put aa -1,-2,-3,-4", "ok"),
                                ("put a 1,1,1,1", "ok"),
                                ("names", "a aa b zz"), ("put b 5,6,7,8", "ok"), ("show b", "5,6,7,8"),
                                ("names", "a aa b zz"),
                                ("drop aa", "ok"), ("names", "a b zz"), ("drop a", "ok"), ("drop b", "ok"),
                                ("drop zz", "ok"),
                                ("names", "none"), ("put aa 9,9,9,9", "ok"), ("show aa", "9,9,9,9"), ("names", "aa")])

    def test_any_table_is_kept(self):
        desk = Desk()
        for table in [(0, 0, 0, 0), (-1, 0, 0, -1), (GREAT, -GREAT, GREAT, -GREAT), (1, 2, 3, 4), (10 ** 199, 0, 0, 1)]:
            self.assert_said(desk, [(f"put a {table_text(table)}", "ok"), ("show a", table_text(table))])

    def test_times(self):
        chance = random.Random(1)
        desk = Desk()
        for each in range(50):
            tables = [tuple(chance.randint(-9, 9) for place in range(4)) for number in range(2)]
            for name, table in zip("ab", tables):
                desk.say(f"put {name} {table_text(table)}")
            self.assertEqual(desk.say("times a b"), table_text(product(*tables)))
            self.assertEqual(desk.say("times a a"), table_text(product(tables[0], tables[0])))
        # A product's numbers may have more figures than can be put.
        desk.say(f"put a {GREAT},0,0,{GREAT}")
        self.assertEqual(desk.say("times a a"), table_text((GREAT * GREAT, 0, 0, GREAT * GREAT)))

    def test_plain_rows(self):
        chance = random.Random(2)
        for each in range(60):
            words = ["".join(chance.choice("lr") for place in range(chance.randint(1, 4))) for number in range(chance.randint(1, 8))]
            desk, makers = desk_of(words), [table_of(word) for word in words]
            names = " ".join("abcdefgh"[:len(words)])
            text = "".join(chance.choice(words) for place in range(4)) + chance.choice(["", "l", "r"])
            table = table_of(text)
            row = least_row(makers, table)
            made = "none" if row is None else ",".join(str(number) for number in row)
            tables = " ".join(table_text(one) for one in hull(makers))
            self.assert_said(desk, [
                (f"made {table_text(table)} {names}", made),
                (f"ways {table_text(table)} {names}", str(many_rows(makers, table))),
                (f"free {names}", "yes" if twins(makers) is None else "no"), (f"hull {names}", tables),
                (f"share {names}", "/".join(str(number) for number in share(makers))), ("word a", words[0]),
                (f"made 1,0,0,1 {names}", "-"), (f"ways 1,0,0,1 {names}", "1")])
            if sum(len(word) for word in words) <= 30:
                self.assert_said(desk, [(f"stuck {names}", stuck(makers) or "none")])

    def test_wide_rows(self):
        chance = random.Random(3)
        for each in range(60):
            words = ["".join(chance.choice(["u", "v", "uV", "Uv"]) for place in range(chance.randint(0, 4)))
                     for number in range(chance.randint(1, 8))]
            desk, makers = Desk(), [wide_table(word) for word in words]
            for name, maker in zip("abcdefgh", makers):
                desk.say(f"put {name} {table_text(maker)}")
            names = " ".join("abcdefgh"[:len(words)])
            table = wide_table(chance.choice(["u", "uv", "vUV", words[0] + words[-1]]))
            tables = " ".join(table_text(one) for one in basis(makers)) or "none"
            states = "-" if index(makers) is None else str(index(makers))
            root = root_of(makers[0])
            self.assert_said(desk, [
                (f"rank {names}", f"{rank(makers)} {states}"), (f"basis {names}", tables),
                (f"within {table_text(table)} {names}", "no" if signed_row(makers, table) is None else "yes"),
                ("root a", "none" if root is None else f"{table_text(root[0])} {root[1]}"),
                (f"kin a {names[-1]}", "no" if turner(makers[0], makers[-1]) is None else "yes")])

    def test_makers_in_their_order_and_named_twice(self):
        desk = desk_of(["l", "r", "lr"])
        lr = written("lr")
        self.assert_said(desk, [(f"made {lr} a b c", "2"), (f"made {lr} c b a", "0"), (f"made {lr} b a", "1,0"),
                                (f"ways {lr} c c c", "3"),
                                (f"ways {lr} a b c c", "3"), ("free a b", "yes"), ("free a b a", "no"),
                                ("share c c", "1/2")])

    def test_a_mill_as_it_stands(self):
        chance = random.Random(4)
        words = ["lr", "l", "rl", "", "rr"]
        desk, mill = desk_of(words), Mill([table_of(word) for word in words[:3]])
        desk.say("mill a b c")
        for each in range(150):
            name = chance.choice("abcde")
            if chance.random() < 0.4 and mill.text():
                self.assertEqual(desk.say("undo"), str(mill.take_back()))
            else:
                self.assertEqual(desk.say(f"feed {name}"), str(mill.read(table_of(words["abcde".index(name)]))))
            row = mill.least()
            least = "none" if row is None else ",".join(str(number) for number in row) or "-"
            self.assert_said(desk, [("text", mill.text() or "-"), ("now", f"{mill.ways()} {least}"),
                                    ("rests", ",".join(mill.rests()) or "none")])

    def test_a_mill_keeps_its_makers(self):
        desk = desk_of(["l", "lr"])
        self.assert_said(desk, [("mill a b", "ok"), ("feed b", "2"), ("now", "1 1"), ("put b 1,0,1,1", "ok"),
                                ("now", "1 1"),
                                ("rests", "l,lr"), ("drop a", "ok"), ("now", "1 1"), ("feed b", "3"), ("now", "1 1,0"),
                                ("drop b", "ok"),
                                ("text", "lrl"), ("rests", "l,lr,r"), ("undo", "2"), ("undo", "0"), ("names", "none"),
                                ("now", "1 -")])

    def test_great_counts(self):
        desk = desk_of(["l"])
        self.assertEqual(desk.say("ways 1,0,400,1" + " a" * 8), str(8 ** 400))
        self.assertEqual(desk.say("made 1,0,400,1 a"), ",".join(["0"] * 400))
        self.assert_said(desk, [("put b 1,0,400,1", "ok"), ("mill" + " a" * 8, "ok"), ("feed b", "400"),
                                ("text", "l" * 400),
                                ("now", f"{8 ** 400} " + ",".join(["0"] * 400))])

    def test_forty_names(self):
        desk = Desk()
        names = [one + other for one in "zyxwv" for other in "abcdefgh"]
        for number, name in enumerate(names):
            self.assertEqual(desk.say(f"put {name} {number},0,0,1"), "ok")
        self.assertEqual(desk.say("names"), " ".join(sorted(names)))
        for number, name in enumerate(names):
            self.assertEqual(desk.say(f"show {name}"), f"{number},0,0,1")

    def test_a_thousand_rows(self):
        desk = Desk()
        for each in range(250):
            name = "abcdefghij"[each % 10]
            self.assert_said(desk, [(f"put {name} 1,0,{each},1", "ok"), (f"show {name}", f"1,0,{each},1"),
                                    (f"drop {name}", "ok"),
                                    ("names", "none")])

    def test_two_desks_beside_each_other(self):
        one, other = Desk(), Desk()
        self.assert_said(one, [("put a 1,0,1,1", "ok"), ("mill a", "ok"), ("feed a", "1")])
        self.assert_said(other, [("names", "none"), ("put a 1,1,0,1", "ok"), ("show a", "1,1,0,1")])
        self.assert_refused(other, "text", NoMill)
        self.assert_said(one, [("show a", "1,0,1,1"), ("text", "l")])
        self.assert_said(other, [("mill a", "ok"), ("text", "-"), ("drop a", "ok"), ("names", "none")])
        self.assert_said(one, [("text", "l"), ("names", "a"), ("undo", "0")])

    def test_the_same_question_has_the_same_answer(self):
        desk = desk_of(["lr", "l", "rl", "rrll"])
        rows = ["names", "show a", "times a b", "word c", "wide d", f"made {written('lrl')} a b c",
                f"ways {written('lrl')} a b c",
                "free a b c", "rank d", f"within {written('uv')} d", "basis d", "hull a b c", "share a b c",
                "stuck a b c", "root d",
                "kin d d", "mill a b c", "text", "now", "rests"]
        first = [desk.say(row) for row in rows]
        self.assertEqual([desk.say(row) for row in rows], first)
        self.assertEqual([desk.say(row) for row in rows[::-1]], first[::-1])


class NoRows(Case):
    def setUp(self):
        self.desk = desk_of(["l", "r", "lr"])
        self.desk.say("mill a b")
        self.desk.say("feed c")

    def test_what_is_no_text(self):
        for thing in NO_TEXTS:
            self.assert_refused(self.desk, thing, NoRow)
            self.assert_refused(Desk(), thing, NoRow)

    def test_other_words(self):
        for row in ["", " ", "  ", "say a", "Put a 1,0,0,1", "PUT a 1,0,0,1", "a", "name", "nam", "namess", "names.",
                    "\n", "names\n",
                    "\nnames", "puts a 1,0,0,1", "put\ta\t1,0,0,1", "put\na 1,0,0,1", "none", "ok", "mills a", "table",
                    "ways\n1,0,0,1 a",
                    "NAME", "..", "-", "1,0,0,1", "quit", "x" * 4000, "text\t", "text,"]:
            self.assert_refused(self.desk, row, NoRow)

    def test_how_many_words(self):
        for word, (least, most) in ROWS.items():
            for many in range(0, 12):
                if many < least or (most is not None and many > most):
                    for other in ["a", "1,0,0,1", "zz", "A"]:
                        self.assert_refused(self.desk, " ".join([word] + [other] * many), NoRow)

    def test_blanks(self):
        rows = ["put a 1,0,0,1", "drop a", "names", "show a", "times a b", "made 1,0,1,1 a b", "free a b", "mill a b",
                "feed a", "undo", "now"]
        for row in rows:
            changed = [" " + row, row + " ", "  " + row, row + "  ", " " + row + " "]
            changed += [row[:at] + " " + row[at:] for at in range(len(row)) if row[at] == " "]
            for other in changed:
                self.assert_refused(self.desk, other, NoRow)

    def test_ahead_of_names_tables_and_mills(self):
        for row in ["put A", "put a 1 1", "show zz zz", "drop", "times zz", "made 1", "made zz", "feed", "feed zz zz",
                    "undo a",
                    "text zz", "now 1", "rests A", "kin zz", "root zz zz", "names zz", "mill", "within 1", "put  1",
                    "put zz ", "free ",
                    "free a  zz"]:
            self.assert_refused(Desk(), row, NoRow)
            self.assert_refused(self.desk, row, NoRow)


class NamesAndTexts(Case):
    def setUp(self):
        self.desk = desk_of(["l", "r", "uv"])

    def test_names_of_one_and_eight_letters(self):
        for name in list("abcdefghijklmnopqrstuvwxyz") + ["abcdefgh", "zzzzzzzz", "names", "put", "none", "ok", "l", "lr"]:
            self.assert_said(self.desk, [(f"put {name} 1,0,1,1", "ok"), (f"show {name}", "1,0,1,1"),
                                         (f"free {name}", "yes"),
                                         (f"drop {name}", "ok")])
            self.assert_refused(self.desk, f"show {name}", NoName)

    def test_words_that_are_no_names(self):
        for name in BAD_NAMES:
            for row in ["put NAME 1,0,0,1", "drop NAME", "show NAME", "times NAME a", "times a NAME", "word NAME",
                        "wide NAME",
                        "made 1,0,0,1 NAME", "made 1,0,0,1 a b NAME", "ways 1,0,0,1 NAME a", "free NAME", "free a NAME",
                        "rank NAME",
                        "within 1,0,0,1 NAME", "basis c NAME", "hull NAME", "share a NAME b", "stuck NAME", "root NAME",
                        "kin NAME c",
                        "kin c NAME", "mill a NAME", "feed NAME"]:
                self.assert_refused(self.desk, row.replace("NAME", name), NoName)

    def test_names_that_do_not_stand(self):
        for name in ["zz", "aa", "names", "none", "abcdefgh"]:
            for row in ["drop NAME", "show NAME", "times NAME a", "times a NAME", "word NAME", "wide NAME",
                        "made 1,0,0,1 a NAME",
                        "ways 1,0,0,1 NAME", "free a NAME", "rank NAME", "within 1,0,0,1 c NAME", "basis NAME",
                        "hull a b NAME",
                        "share NAME", "stuck NAME", "root NAME", "kin NAME c", "kin c NAME", "mill NAME", "feed NAME"]:
                self.assert_refused(self.desk, row.replace("NAME", name), NoName)
            self.assertEqual(self.desk.say(f"put {name} 1,0,0,1"), "ok")
            self.desk.say(f"drop {name}")
            self.assert_refused(self.desk, f"drop {name}", NoName)

    def test_words_that_are_no_tables(self):
        for text in BAD_TABLES:
            for row in ["put a TABLE", "put zz TABLE", "made TABLE a b", "ways TABLE a", "within TABLE c"]:
                self.assert_refused(self.desk, row.replace("TABLE", text), NoText)

    def test_word_by_word(self):
        for name, text in itertools.product(["A", "abcdefghi", "1,0,0,1"], BAD_TABLES):
            self.assert_refused(self.desk, f"put {name} {text}", NoName)
        for name, text in itertools.product(["A", "zz", "1,0,0,1"], BAD_TABLES):
            for row in WITH_TABLE:
                self.assert_refused(self.desk, f"{row} {text} {name}", NoText)
                self.assert_refused(self.desk, f"{row} {text} a {name}", NoText)
                self.assert_refused(self.desk, f"{row} 1,0,0,1 a {name}", NoName)
        for row in WITH_TABLE:
            # A name where the table is to stand.
            self.assert_refused(self.desk, f"{row} a 1,0,0,1", NoText)
            self.assert_refused(self.desk, f"{row} a b", NoText)

    def test_ahead_of_the_mill_and_of_the_deed(self):
        for name in ["zz", "A", "abcdefghi"]:
            self.assert_refused(self.desk, f"feed {name}", NoName)
            for row in OF_MAKERS + OF_WIDE_MAKERS:
                # One that isn't a maker, or too many, ahead of the name.
                self.assert_refused(self.desk, f"{row} c a {name}", NoName)
                self.assert_refused(self.desk, f"{row}" + " a" * 12 + f" {name}", NoName)
            for row in WITH_TABLE:
                self.assert_refused(self.desk, f"{row} 2,0,0,1 a c {name}", NoName)
            self.assert_refused(self.desk, f"kin a {name}", NoName)


class Mills(Case):
    def test_no_mill(self):
        desk = desk_of(["l", "uV", "lr"])
        for row in OF_MILL:
            for name in "abc":
                self.assert_refused(desk, row.replace("NAME", name), NoMill)
        # What is refused gives the desk no mill.
        self.assert_refused(desk, "mill b", NoMakers)
        for row in OF_MILL:
            self.assert_refused(desk, row.replace("NAME", "a"), NoMill)
        desk.say("mill a c")
        self.assert_said(desk, [("text", "-"), ("feed a", "1")])

    def test_as_the_deed_is_refused(self):
        desk = desk_of(["l", "uV", "lr"])
        desk.say("put much 1,0,300,1")
        desk.say("put more 1,0,401,1")
        desk.say("mill a c")
        self.assert_refused(desk, "undo", NoBack)
        self.assert_refused(desk, "feed b", NoPlain)
        self.assert_refused(desk, "feed more", TooLong)
        self.assertEqual(desk.say("feed much"), "300")
        self.assert_refused(desk, "feed much", TooLong)
        self.assert_refused(desk, "mill b", NoMakers)
        self.assert_refused(desk, "mill a much", NoMakers)
        self.assert_refused(desk, "mill" + " a" * 9, NoMakers)
        self.assert_said(desk, [("text", "l" * 300), ("undo", "0")])
        self.assert_refused(desk, "undo", NoBack)


class Deeds(Case):
    def setUp(self):
        self.desk = desk_of(["l", "r", "uv", "u", "lrrl"])
        for name, table in [("one", "1,0,0,1"), ("long", "1,0,41,1"), ("odd", "2,0,0,1"), ("eleven", "1,22,0,1"),
                            ("great", "1,802,0,1"),
                            ("huge", f"1,{GREAT - 1},0,1"), ("turn", "0,-1,1,0"), ("many", "1,401,0,1"),
                            ("some", "1,0,20,1")]:
            self.desk.say(f"put {name} {table}")

    def test_words(self):
        for name in ["odd", "turn"]:
            self.assert_refused(self.desk, f"word {name}", NoPlain)
        for name in ["many", "huge", "great"]:
            self.assert_refused(self.desk, f"word {name}", TooLong)
        for name in ["a", "b", "odd", "turn", "many"]:
            self.assert_refused(self.desk, f"wide {name}", NoWide)
        for name in ["great", "huge"]:
            self.assert_refused(self.desk, f"wide {name}", TooLong)

    def test_makers(self):
        for names in ["one", "odd", "turn", "long", "a long", "one a", "huge", " ".join("a" * 9), " ".join("a" * 12),
                      "a b one"]:
            for row in OF_MAKERS:
                self.assert_refused(self.desk, f"{row} {names}", NoMakers)
            for row, table in itertools.product(["made", "ways"], ["1,0,0,1", "2,0,0,1", "1,401,0,1", "-1,0,0,-1"]):
                self.assert_refused(self.desk, f"{row} {table} {names}", NoMakers)

    def test_wide_makers(self):
        for names in ["a", "b", "odd", "turn", "eleven", "c eleven", "a c", "huge", " ".join("c" * 9), "c d odd"]:
            for row in OF_WIDE_MAKERS:
                self.assert_refused(self.desk, f"{row} {names}", NoMakers)
            for table in ["1,0,0,1", "2,0,0,1", "1,802,0,1", "1,1,0,1"]:
                self.assert_refused(self.desk, f"within {table} {names}", NoMakers)

    def test_tables(self):
        for row in ["made", "ways"]:
            for table in ["2,0,0,1", "-1,0,0,-1", "1,-1,0,1", "0,0,0,0"]:
                self.assert_refused(self.desk, f"{row} {table} a b", NoPlain)
            for table in ["1,401,0,1", f"1,{GREAT},0,1"]:
                self.assert_refused(self.desk, f"{row} {table} a b", TooLong)
        for table in ["2,0,0,1", "1,1,0,1", "-1,0,0,-1"]:
            self.assert_refused(self.desk, f"within {table} c", NoWide)
        for table in ["1,802,0,1", f"1,0,{GREAT - 1},1"]:
            self.assert_refused(self.desk, f"within {table} c", TooLong)

    def test_counts_roots_and_kin(self):
        self.assert_refused(self.desk, "stuck some e e e", NoCount)
        for name, error in [("a", NoWide), ("odd", NoWide), ("great", TooLong), ("huge", TooLong)]:
            self.assert_refused(self.desk, f"root {name}", error)
            for other in ["c", "one", "a", "great"]:
                self.assert_refused(self.desk, f"kin {name} {other}", error)
            for other in ["c", "one"]:
                self.assert_refused(self.desk, f"kin {other} {name}", error)

    def test_any_rows_are_answered_or_refused(self):
        chance = random.Random(5)
        words = list(ROWS) + ["a", "b", "c", "one", "odd", "zz", "1,0,0,1", "1,1,1,2", "5,2,2,1", "1,0,0", "", "A",
                              "\n"]
        answered = 0
        for each in range(3000):
            row = " ".join([chance.choice(list(ROWS))] + [chance.choice(words) for place in range(chance.randint(0, 3))])
            try:
                self.assertIsInstance(self.desk.say(row), str)
                answered += 1
            except QuadError as refused:
                self.assertEqual(type(refused).__mro__[1], QuadError)
        self.assertGreater(answered, 40)

    def test_what_is_told_can_be_put(self):
        for row in ["show c", "times c d", "basis c", "hull a", "root c"]:
            told = self.desk.say(row).split(" ")[0]
            self.assert_said(self.desk, [(f"put told {told}", "ok"), ("show told", told)])
            self.assertEqual(table_text(read_table(told)), told)


if __name__ == "__main__":
    unittest.main()
