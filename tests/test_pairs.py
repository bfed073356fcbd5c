"""Point 29: tables made by words of pairs of letters alike, ll and rr, as plain and as wide ones."""

import itertools
import random
import unittest

from quadwords.bases import basis, common, same_wide
from quadwords.desk import Desk
from quadwords.free import needed, same, twins
from quadwords.graphs import bars, closes, graph_of, rank
from quadwords.hulls import hull
from quadwords.mills import Mill
from quadwords.moves import all_within, moves
from quadwords.plain import is_plain, table_of, word_of
from quadwords.roots import root_of, turner
from quadwords.rows import least_row
from quadwords.signed import relation, row_made, signed_row
from quadwords.tables import product_of
from quadwords.texts import table_text
from quadwords.wide import is_wide, wide_table, wide_word


def doubled(text):
    """The word of pairs whose table has a text of v and u as its reduced word."""
    return text.replace("v", "ll").replace("u", "rr")


def any_text(chance, least, most):
    return "".join(chance.choice("uv") for place in range(chance.randint(least, most)))


def some_texts(seed, many, most):
    """Lists of texts of v and u, some put together of others."""
    chance = random.Random(seed)
    told = []
    for each in range(many):
        texts = [any_text(chance, 1, most) for number in range(chance.randint(1, 5))]
        if each % 3 == 0:
            texts.append((chance.choice(texts) + chance.choice(texts))[:10])
        told.append(texts)
    return told


def tables_of(texts):
    return [table_of(doubled(text)) for text in texts]


class Pairs(unittest.TestCase):
    def test_all_short_words(self):
        for many in range(8):
            for letters in itertools.product("uv", repeat=many):
                text = "".join(letters)
                table = table_of(doubled(text))
                self.assertIs(is_wide(table), True)
                self.assertEqual(wide_word(table), text)
                self.assertEqual(wide_table(text), table)

    def test_long_words(self):
        chance = random.Random(1)
        for each in range(100):
            text = any_text(chance, 100, 200)
            table = table_of(doubled(text))
            self.assertIs(is_plain(table) and is_wide(table), True)
            self.assertEqual((word_of(table), wide_word(table)), (doubled(text), text))

    def test_other_words(self):
        # Not every plain table is wide.
        for text in ["l", "r", "lr", "rl", "llr", "lrr", "lrrl", "lll", "rrlrr"]:
            self.assertIs(is_wide(table_of(text)), False)

    def test_what_plain_makers_make_they_make_as_wide_ones(self):
        chance = random.Random(2)
        for texts in some_texts(3, 150, 6):
            makers = tables_of(texts)
            graph = graph_of(makers)
            for each in range(5):
                row = [chance.randrange(len(texts)) for place in range(chance.randint(0, 12))]
                table = product_of([makers[number] for number in row])
                least = least_row(makers, table)
                self.assertIsNotNone(least)
                self.assertIsNotNone(signed_row(makers, table))
                self.assertEqual(row_made(makers, [number + 1 for number in least]), table)
                self.assertTrue(closes(graph, wide_word(table)))
                self.assertFalse(bars(makers, table, graph))

    def test_what_no_signed_row_makes_no_row_makes(self):
        barred = 0
        for texts in some_texts(4, 100, 5):
            makers = tables_of(texts)
            for text in ["u", "v", "uv", "vu", "uuv", "vvu", "uvuv"]:
                table = table_of(doubled(text))
                if signed_row(makers, table) is None:
                    barred += 1
                    self.assertIsNone(least_row(makers, table))
        self.assertGreater(barred, 100)

    def test_plain_ones_that_make_the_same_make_the_same_as_wide_ones(self):
        answers = []
        for texts in some_texts(5, 200, 5):
            makers = tables_of(texts)
            kept = [makers[number] for number in needed(makers)]
            for others in [kept, kept[::-1], makers[::-1], makers[1:] or makers]:
                answers.append(same(makers, others))
                if answers[-1]:
                    self.assertIs(same_wide(makers, others), True)
                    self.assertEqual(basis(makers), basis(others))
                    self.assertEqual(common(makers, others), basis(makers))
        self.assertGreater(answers.count(True), 500)
        self.assertGreater(answers.count(False), 50)

    def test_wide_ones_may_make_the_same_where_plain_ones_do_not(self):
        makers, others = tables_of(["u", "v"]), tables_of(["u", "uv"])
        self.assertIs(same(makers, others), False)
        self.assertIs(same_wide(makers, others), True)

    def test_free_as_wide_ones_is_free_as_plain_ones(self):
        free = 0
        for texts in some_texts(6, 200, 6):
            makers = tables_of(texts)
            if rank(makers) == len(makers):
                free += 1
                self.assertIsNone(relation(makers))
                self.assertIsNone(twins(makers))
        self.assertGreater(free, 50)

    def test_the_hull_is_made_of_pairs_and_makes_more_as_wide_ones(self):
        for texts in some_texts(7, 150, 5):
            makers = tables_of(texts)
            told = hull(makers)
            self.assertTrue(all(is_wide(table) for table in told))
            if all(len(wide_word(table)) <= 10 for table in told):
                self.assertTrue(all(closes(graph_of(told), text) for text in texts))

    def test_what_plain_makers_make_is_within_wide_ones(self):
        chance = random.Random(8)
        for texts in some_texts(9, 150, 4):
            makers = tables_of(texts)
            made = ["".join(chance.choice(texts) for place in range(chance.randint(0, 3))) for number in range(8)]
            others = tables_of([text for text in made if len(text) <= 10] + [""])[:8]
            self.assertIs(all_within(makers, others), True)
            kept = [makers[number] for number in needed(makers)]
            self.assertIs(all_within(makers, kept) and all_within(kept, makers), True)
            self.assertEqual(moves(makers), moves(kept))

    def test_roots_and_turners_of_pairs(self):
        chance = random.Random(10)
        for each in range(100):
            text, many = any_text(chance, 1, 9), chance.randint(1, 12)
            root, times = root_of(table_of(doubled(text * many)))
            self.assertEqual(word_of(root) * times, doubled(text * many))
            self.assertEqual(times % many, 0)
            round_text = text[1:] + text[0]
            self.assertIsNotNone(turner(table_of(doubled(text)), table_of(doubled(round_text))))

    def test_a_desk_tells_of_pairs(self):
        desk = Desk()
        for name, text in [("a", "u"), ("b", "vu"), ("c", "uvuu")]:
            desk.say(f"put {name} {table_text(table_of(doubled(text)))}")
        told = desk.say("show c")
        self.assertEqual([desk.say(row) for row in ["word c", "wide c", f"made {told} a b", f"within {told} a b"]],
                         ["rrllrrrr", "uvuu", "0,1,0", "yes"])

    def test_a_mill_reads_pairs(self):
        mill = Mill(tables_of(["u", "vu"]))
        for text in ["u", "v", "uvu"]:
            mill.read(table_of(doubled(text)))
            self.assertIs(is_wide(mill.table()), True)
        self.assertEqual((mill.text(), wide_word(mill.table())), ("rrllrrllrr", "uvuvu"))


if __name__ == "__main__":
    unittest.main()
