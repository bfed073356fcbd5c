"""Points 1, 2 and 3 over the whole program: each question has the same answer, in whatever order they are asked."""

import copy
import importlib
import itertools
import random
import unittest

from quadwords.bases import basis, common, same_wide
from quadwords.counts import count_of_rows, count_of_tables, share, stuck
from quadwords.desk import Desk
from quadwords.errors import QuadError
from quadwords.free import leftovers, let_by, needed, same, twins
from quadwords.graphs import bars, closes, graph_of, index, rank
from quadwords.hulls import hull
from quadwords.mills import Mill
from quadwords.moves import all_within, moves
from quadwords.plain import is_plain, table_of, word_of
from quadwords.roots import root_of, turner
from quadwords.rows import least_row, many_rows, reached
from quadwords.signed import relation, row_made, signed_row
from quadwords.tables import back, is_table, product, product_of, worth
from quadwords.texts import read_table, table_text
from quadwords.wide import is_wide, reduced, wide_table, wide_word

INTERFACE = {
    "tables": ["is_table", "product", "product_of", "worth", "back"], "plain": ["is_plain", "table_of", "word_of"],
    "rows": ["least_row", "many_rows", "reached"], "free": ["twins", "leftovers", "let_by", "needed", "same"],
    "wide": ["is_wide", "wide_table", "wide_word", "reduced"],
    "graphs": ["graph_of", "closes", "bars", "rank", "index"],
    "signed": ["row_made", "signed_row", "relation"], "bases": ["basis", "common", "same_wide"],
    "counts": ["count_of_rows", "count_of_tables", "share", "stuck"], "hulls": ["hull"], "mills": ["Mill"],
    "roots": ["root_of", "turner"], "moves": ["moves", "all_within"], "texts": ["table_text", "read_table"],
    "desk": ["Desk"],
    "errors": ["QuadError"]}


def mill_told(makers, tables):
    """All that a mill tells when it reads tables and takes the last one back."""
    mill = Mill(makers)
    lengths = [mill.read(table) for table in tables] + [mill.take_back()]
    return (lengths, mill.text(), mill.table(), mill.ways(), mill.least(), mill.places(), mill.rests())


def desk_told(rows):
    """What a desk answers, or how it refuses, row by row."""
    desk = Desk()
    told = []
    for row in rows:
        try:
            told.append(desk.say(row))
        except QuadError as refused:
            told.append(type(refused).__name__)
    return told


def questions():
    """Every function with what is handed in; the lists are the same ones each time."""
    free, tied = [table_of("l"), table_of("lr")], [table_of("lr"), table_of("l"), table_of("rl")]
    wide, other = [wide_table(word) for word in ["uu", "v", "uvU"]], [wide_table(word) for word in ["u", "vv", "uu"]]
    ones, bad = [(1, 0, 0, 1)], [table_of("l"), (2, 0, 0, 1)]
    word, text, graph = wide_table("uvvu"), table_of("lrl"), [(1, 0, 1, 0), (0, 1, 0, 1)]
    told = [(is_table, [[1, 0, 0, 1]]), (is_table, [text]), (product, [text, word]), (product_of, [tied]),
            (worth, [text]),
            (back, [word]), (back, [(2, 0, 0, 1)]), (is_plain, [text]), (is_plain, [(0, 1, -1, 0)]),
            (table_of, ["lrrl"]),
            (table_of, ["x"]), (word_of, [text]), (word_of, [(1, 401, 0, 1)]), (let_by, [free, ["r"]]),
            (let_by, [tied, ["l", "r"]]),
            (same, [free, tied]), (same, [tied, tied]), (same, [tied, bad]), (is_wide, [word]), (is_wide, [text]),
            (wide_table, ["uvU"]), (wide_word, [word]), (wide_word, [text]), (reduced, ["uvVu"]), (reduced, ["w"]),
            (closes, [graph, "uvU"]), (bars, [wide, wide_table("u"), graph]), (bars, [wide, word, graph]),
            (row_made, [wide, [1, -2, 3, 1]]), (signed_row, [wide, word]), (signed_row, [wide, wide_table("u")]),
            (common, [wide, other]), (common, [other, wide]), (common, [ones, wide]), (same_wide, [wide, other]),
            (same_wide, [wide, wide]), (all_within, [wide, other]), (all_within, [other, other]), (root_of, [word]),
            (root_of, [(1, 0, 0, 1)]), (turner, [word, wide_table("vvuu")]), (turner, [word, text]),
            (table_text, [word]),
            (read_table, ["1,0,-2,1"]), (read_table, [["1,0,-2,1"]]), (count_of_rows, [tied, 40]),
            (count_of_rows, [tied, 401]),
            (count_of_tables, [tied, 40]), (count_of_tables, [bad, 3]), (mill_told, [tied, [text, text, (1, 0, 0, 1)]]),
            (mill_told, [free, [text]]), (mill_told, [bad, [text]]),
            (desk_told,
             [["put a 1,0,1,1", "put b 1,1,1,2", "names", "free a b", "mill a b", "feed b", "now", "rests", "say",
               "drop c"]])]
    for makers in [free, tied, bad, []]:
        told += [(asked, [makers]) for asked in [twins, leftovers, needed, hull, share, stuck]]
        told += [(asked, [makers, text]) for asked in [least_row, many_rows, reached]]
    for makers in [wide, other, ones, bad]:
        told += [(asked, [makers]) for asked in [graph_of, rank, index, relation, basis, moves]]
    return told


def answer(asked, handed):
    """A question's answer, or the refusal's class."""
    try:
        return asked(*handed)
    except QuadError as refused:
        return type(refused)


def lists_in(thing):
    """All lists that are told in a thing."""
    inner = [each for part in thing for each in lists_in(part)] if isinstance(thing, (list, tuple)) else []
    return inner + ([thing] if isinstance(thing, list) else [])


def spoil(thing):
    """Make all lists that are told longer, and turn them about."""
    for told in lists_in(thing):
        told.append("more")
        told.insert(0, None)
        told.reverse()


class Whole(unittest.TestCase):
    def test_all_of_the_interface_is_there(self):
        for module, names in INTERFACE.items():
            held = importlib.import_module(f"quadwords.{module}")
            for name in names:
                self.assertTrue(callable(getattr(held, name)), (module, name))

    def test_every_function_is_asked(self):
        asked = {question.__name__ for question, handed in questions()}
        names = {name for names in INTERFACE.values() for name in names} - {"Mill", "Desk", "QuadError"}
        self.assertEqual(sorted(names - asked), [])

    def test_in_one_order_and_in_another(self):
        asked = questions()
        before = copy.deepcopy([handed for question, handed in asked])
        first = [copy.deepcopy(answer(*each)) for each in asked]
        chance = random.Random(1)
        orders = [list(range(len(asked))), list(range(len(asked)))[::-1]]
        orders += [chance.sample(range(len(asked)), len(asked)) for each in range(6)]
        for order in orders:
            for number in order:
                told = answer(*asked[number])
                self.assertEqual(told, first[number], asked[number])
                spoil(told)
                self.assertEqual([handed for question, handed in asked], before)

    def test_asked_twice_beside_each_other(self):
        for question, handed in questions():
            one, other = answer(question, handed), answer(question, handed)
            kept = copy.deepcopy(other)
            lists = lists_in(one) + lists_in(other)
            self.assertEqual(len({id(each) for each in lists}), len(lists), question)
            spoil(one)
            self.assertEqual(other, kept)
            self.assertEqual(answer(question, handed), kept)

    def test_told_lists_are_none_of_those_handed_in(self):
        for question, handed in questions():
            told = lists_in(answer(question, handed))
            self.assertFalse({id(each) for each in told} & {id(each) for each in lists_in(handed)}, question)

    def test_what_is_handed_in_and_changed_later_changes_no_answer(self):
        for question, handed in questions():
            own = copy.deepcopy(handed)
            told = answer(question, own)
            kept = copy.deepcopy(told)
            spoil(own)
            self.assertEqual(told, kept)
            self.assertEqual(answer(question, handed), kept)

    def test_two_mills_and_two_desks_in_turns(self):
        tied = [table_of("lr"), table_of("l"), table_of("rl")]
        alone = mill_told(tied, [table_of("lrl")] * 3)
        one, other = Mill(tied), Mill(tied)
        for each in range(3):
            one.read(table_of("lrl"))
            spoil([one.places(), one.rests()])
            other.read(table_of("r"))
        one.take_back()
        self.assertEqual((one.text(), one.table(), one.ways(), one.least(), one.places(), one.rests()), alone[1:])
        rows = ["put a 1,0,1,1", "names", "mill a", "feed a", "now", "undo", "undo", "drop a", "names"]
        desks = [Desk(), Desk()]
        told = [[], []]
        for row, number in itertools.product(rows, range(2)):
            told[number].append(answer(desks[number].say, [row]))
        self.assertEqual(told[0], told[1])
        self.assertEqual(told[0][:6], ["ok", "a", "ok", "1", "1 0", "0"])


class Promise(unittest.TestCase):
    """Point 3, over modules: what one tells, another shows."""

    def test_of_plain_makers(self):
        chance = random.Random(2)
        for each in range(200):
            words = ["".join(chance.choice("lr") for place in range(chance.randint(1, 4))) for number in range(chance.randint(1, 5))]
            makers = [table_of(word) for word in words]
            table = table_of("".join(chance.choice(words + ["l", "r"]) for place in range(5)))
            row, places = least_row(makers, table), reached(makers, table)
            self.assertEqual(row is not None, many_rows(makers, table) > 0)
            self.assertEqual(row is not None, places[-1] == len(word_of(table)))
            if row is not None:
                self.assertEqual(product_of([makers[number] for number in row]), table)
            pair = twins(makers)
            self.assertEqual(pair is None, let_by(makers, leftovers(makers)))
            if pair is not None:
                self.assertEqual(*[product_of([makers[number] for number in one]) for one in pair])
            self.assertEqual(pair is None,
                             all(count_of_rows(makers, n) == count_of_tables(makers, n) for n in range(41)))

    def test_of_wide_makers(self):
        chance = random.Random(3)
        for each in range(200):
            words = [reduced("".join(chance.choice("uvUV") for place in range(chance.randint(0, 8)))) for number in range(chance.randint(1, 4))]
            makers = [wide_table(word) for word in words]
            table = wide_table("".join(chance.choice(words + ["u", "V"]) for place in range(4)))
            row = signed_row(makers, table)
            self.assertEqual(row is None, bars(makers, table, graph_of(makers)))
            if row is not None:
                self.assertEqual(row_made(makers, row), table)
            found = relation(makers)
            self.assertEqual(found is None, rank(makers) == len(makers))
            if found is not None:
                self.assertEqual(row_made(makers, found), (1, 0, 0, 1))
            self.assertIs(same_wide(makers, [back(maker) for maker in makers]), True)
            self.assertEqual(len(basis(makers)), rank(makers))


if __name__ == "__main__":
    unittest.main()
