"""Points 6 and 7: rows of makers, places reached; and points 2 and 3, of what quadwords/rows.py takes and tells."""

import itertools
import random
import unittest

from quadwords.errors import NoMakers, NoPlain, TooLong
from quadwords.plain import table_of, word_of
from quadwords.rows import least_row, many_rows, reached
from quadwords.tables import back, product, product_of

ONE = (1, 0, 0, 1)
GREAT = 10 ** 200 - 1
ASKED = [least_row, many_rows, reached]


def tables_of(words):
    return [table_of(word) for word in words]


def any_word(chance, least, most):
    return "".join(chance.choice("lr") for place in range(chance.randint(least, most)))


def levels_of(makers, table):
    """By tables alone: what is left of a table when makers are taken off its front, by how many were taken.

    A level has, for each rest, by how many rows it is come to. Each maker has a letter, so levels end.
    """
    levels = [{table: 1}]
    while levels[-1]:
        level = {}
        for rest, many in levels[-1].items():
            for maker in makers:
                left = product(back(maker), rest)
                if min(left) >= 0:
                    level[left] = level.get(left, 0) + many
        levels.append(level)
    return levels


def counted(makers, table):
    return sum(level.get(ONE, 0) for level in levels_of(makers, table))


def shortest(makers, table):
    """The length of the shortest row, or None."""
    for length, level in enumerate(levels_of(makers, table)):
        if ONE in level:
            return length
    return None


def shortest_of_rests(makers, table):
    """For each rest of a table from which one is come to, the length of its shortest row."""
    lengths = {ONE: 0}
    # A rest of fewer letters has a smaller sum, so what is left of each is known ahead of it.
    for rest in sorted({rest for level in levels_of(makers, table) for rest in level}, key=sum):
        lefts = [product(back(maker), rest) for maker in makers]
        known = [lengths[left] for left in lefts if left in lengths]
        if rest != ONE and known:
            lengths[rest] = 1 + min(known)
    return lengths


def least_by_rests(makers, table):
    """The least row, its numbers chosen from the first on as the least ones that leave a shortest row."""
    lengths = shortest_of_rests(makers, table)
    if table not in lengths:
        return None
    row = []
    while table != ONE:
        lefts = [product(back(maker), table) for maker in makers]
        number = [lengths.get(left) for left in lefts].index(lengths[table] - 1)
        row.append(number)
        table = lefts[number]
    return row


def every_row(makers, most):
    """All rows of at most so many numbers, shortest first and of these the first first, by the table they make."""
    told = {}
    for length in range(most + 1):
        for row in itertools.product(range(len(makers)), repeat=length):
            told.setdefault(product_of([makers[number] for number in row]), []).append(list(row))
    return told


def some_questions():
    """Makers and tables, some made of these and some not."""
    chance = random.Random(6)
    questions = []
    for each in range(150):
        words = [any_word(chance, 1, 4) for many in range(chance.randint(1, 8))]
        text = "".join(chance.choice(words) for many in range(chance.randint(0, 7)))
        if each % 3 == 0:
            text += any_word(chance, 1, 3)
        questions.append((tables_of(words), table_of(text)))
    return questions


def great_questions():
    """As many as eight makers of up to 40 letters, and tables of up to 400."""
    chance = random.Random(7)
    questions = []
    for each in range(12):
        words = [any_word(chance, 1, 40) for many in range(5)] + [any_word(chance, 1, 2), any_word(chance, 40, 40)]
        words.append(words[0] + words[5] if len(words[0] + words[5]) <= 40 else words[5])
        text = ""
        while len(text) < 400:
            text += chance.choice(words)
        questions.append((tables_of(words), table_of(text[:400])))
        whole = "".join(chance.choice(words) for many in range(10))
        questions.append((tables_of(words), table_of(whole)))
    return questions


class Rows(unittest.TestCase):
    def test_written_ones(self):
        makers = tables_of(["l", "lr", "r"])
        table = table_of("llrr")
        self.assertEqual(least_row(makers, table), [0, 1, 2])
        self.assertEqual(many_rows(makers, table), 2)
        self.assertEqual(reached(makers, table), [0, 1, 2, 3, 4])

    def test_the_table_one(self):
        for words in [["l"], ["lr", "rl"], ["l", "l", "r"], ["lr" * 20] * 8]:
            self.assertEqual(least_row(tables_of(words), ONE), [])
            self.assertEqual(many_rows(tables_of(words), ONE), 1)
            self.assertEqual(reached(tables_of(words), ONE), [0])

    def test_where_no_row_makes_the_table(self):
        for words, text, places in [(["l"], "r", [0]), (["l"], "lr", [0, 1]), (["lr"], "lrl", [0, 2]), (["ll"], "l", [0]),
                                    (["lr", "rl"], "lrrll", [0, 2, 4]), (["l", "lrl"], "lrlrrr", [0, 1, 3])]:
            makers, table = tables_of(words), table_of(text)
            self.assertIs(least_row(makers, table), None)
            self.assertEqual(many_rows(makers, table), 0)
            self.assertEqual(reached(makers, table), places)

    def test_places_reached_are_passed_over_where_no_row_ends(self):
        self.assertEqual(reached(tables_of(["lr", "rrr"]), table_of("lrrrrlr")), [0, 2, 5, 7])
        self.assertEqual(reached(tables_of(["ll", "lll"]), table_of("l" * 9)), [0, 2, 3, 4, 5, 6, 7, 8, 9])

    def test_the_shortest_goes_ahead_of_the_first(self):
        self.assertEqual(least_row(tables_of(["l", "lll"]), table_of("llll")), [0, 1])
        self.assertEqual(least_row(tables_of(["l", "r", "lr"]), table_of("lr")), [2])
        self.assertEqual(least_row(tables_of(["lll", "ll", "l"]), table_of("llll")), [0, 2])
        # The longest maker first would be no shortest row.
        self.assertEqual(least_row(tables_of(["l", "lll", "llll"]), table_of("llllll")), [1, 1])

    def test_of_the_shortest_the_first(self):
        self.assertEqual(least_row(tables_of(["r", "lr", "l", "rl"]), table_of("lrl")), [1, 2])
        self.assertEqual(least_row(tables_of(["r", "l", "lr", "rl"]), table_of("lrl")), [1, 3])
        self.assertEqual(least_row(tables_of(["ll", "l", "l"]), table_of("lll")), [0, 1])

    def test_makers_that_are_alike(self):
        makers = tables_of(["r", "l", "l", "l"])
        self.assertEqual(least_row(makers, table_of("lrl")), [1, 0, 1])
        self.assertEqual(many_rows(makers, table_of("lrl")), 9)
        self.assertEqual(many_rows(tables_of(["lr"] * 8), table_of("lr" * 5)), 8 ** 5)

    def test_small_ones_by_every_row(self):
        for words in [["l", "r"], ["l", "ll", "r"], ["lr", "l", "rl", "r"], ["l", "l", "rl"], ["lrl", "rl", "lr", "l"]]:
            makers = tables_of(words)
            told = every_row(makers, 5)
            for text in ["".join(letters) for many in range(6) for letters in itertools.product("lr", repeat=many)]:
                rows = told.get(table_of(text), [])
                self.assertEqual(least_row(makers, table_of(text)), rows[0] if rows else None)
                self.assertEqual(many_rows(makers, table_of(text)), len(rows))
                places = [place for place in range(len(text) + 1) if table_of(text[:place]) in told]
                self.assertEqual(reached(makers, table_of(text)), places)

    def test_as_counted_by_tables(self):
        for makers, table in some_questions() + great_questions():
            self.assertEqual(many_rows(makers, table), counted(makers, table))

    def test_the_least_row_by_tables(self):
        for makers, table in some_questions() + great_questions():
            told = least_row(makers, table)
            self.assertEqual(told, least_by_rests(makers, table))
            if told is None:
                self.assertIs(shortest(makers, table), None)
            else:
                self.assertEqual(product_of([makers[number] for number in told]), table)
                self.assertEqual(len(told), shortest(makers, table))

    def test_the_places_reached_by_tables(self):
        for makers, table in some_questions() + great_questions()[:4]:
            word = word_of(table)
            places = [k for k in range(len(word) + 1) if shortest(makers, table_of(word[:k])) is not None]
            told = reached(makers, table)
            self.assertEqual(told, places)
            self.assertEqual(told[-1] == len(word), least_row(makers, table) is not None)
            self.assertEqual(told[-1] == len(word), many_rows(makers, table) > 0)

    def test_great_counts(self):
        l400 = table_of("l" * 400)
        self.assertEqual(many_rows(tables_of(["l"] * 8), l400), 8 ** 400)
        self.assertEqual(least_row(tables_of(["l"] * 8), l400), [0] * 400)
        self.assertEqual(reached(tables_of(["l"] * 8), l400), list(range(401)))
        ways = [1, 1]
        for place in range(399):
            ways.append(ways[-1] + ways[-2])
        self.assertEqual(many_rows(tables_of(["l", "ll"]), l400), ways[400])
        self.assertEqual(least_row(tables_of(["l", "ll"]), l400), [1] * 200)
        self.assertEqual(many_rows(tables_of(["lr", "l", "r"]), table_of("lr" * 200)), 2 ** 200)

    def test_eight_makers_of_up_to_forty_letters(self):
        words = ["l" * length for length in [40, 39, 38, 37, 36, 35, 34, 33]]
        makers = tables_of(words)
        self.assertEqual(least_row(makers, table_of("l" * 400)), [0] * 10)
        self.assertEqual(least_row(makers, table_of("l" * 393)), [0] * 9 + [7])
        self.assertEqual(least_row(makers, table_of("l" * 32)), None)
        self.assertEqual(many_rows(makers, table_of("l" * 400)), counted(makers, table_of("l" * 400)))
        self.assertEqual(reached(makers, table_of("l" * 82)), [0, *range(33, 41), *range(66, 81)])

    def test_makers_as_long_as_may_be(self):
        word = "lrrlr" * 8
        self.assertEqual(len(word), 40)
        self.assertEqual(least_row([table_of(word)], table_of(word * 10)), [0] * 10)
        self.assertEqual(reached([table_of(word)], table_of(word * 10)), list(range(0, 401, 40)))


class Refusals(unittest.TestCase):
    def assert_refused(self, error, makers, table):
        for asked in ASKED:
            handed = list(makers) if isinstance(makers, list) else makers
            with self.subTest(asked=asked.__name__), self.assertRaises(error):
                asked(handed, table)
            self.assertEqual(handed, makers)

    def bad_makers(self):
        return [ONE, (0, 0, 0, 0), (1, -1, 0, 1), (1, 0, -1, 1), (-1, 0, 0, -1), (0, 1, -1, 0), (2, 0, 0, 1),
                (1, 1, 1, 1), (1, 41, 0, 1), (1, 0, 41, 1), table_of(("lrr" * 14)[:41]), table_of("l" * 400),
                (1, 401, 0, 1), (1, GREAT, 0, 1), (1, 0, GREAT, 1), (GREAT, 0, 0, GREAT)]

    def test_how_many_makers(self):
        for many in [0, 9, 10, 1000]:
            self.assert_refused(NoMakers, [table_of("l")] * many, table_of("l"))
            self.assert_refused(NoMakers, [table_of("l")] * many, ONE)
        for many in range(1, 9):
            self.assertEqual(many_rows([table_of("l")] * many, table_of("l")), many)

    def test_a_bad_maker_at_any_place(self):
        for bad in self.bad_makers():
            for many in [1, 3, 8]:
                for place in range(many):
                    makers = [table_of("lr")] * many
                    makers[place] = bad
                    self.assert_refused(NoMakers, makers, table_of("lr"))

    def test_a_maker_that_is_no_table(self):
        for bad in [None, True, 0, "l", "", [1, 0, 1, 1], (1, 0, 1), (1, 0, 1, 1, 1), (1, False, 1, 1), ()]:
            self.assert_refused(NoMakers, [table_of("l"), bad], table_of("l"))

    def test_makers_that_are_no_list(self):
        for makers in [None, True, 1, "l", "", (), (table_of("l"),), table_of("l")]:
            self.assert_refused(NoMakers, makers, table_of("l"))

    def test_a_table_that_is_not_plain(self):
        for table in [(0, 0, 0, 0), (1, -1, 0, 1), (1, 0, -1, 1), (-1, 0, 0, -1), (2, 0, 0, 1), (0, 1, 1, 0),
                      (1, -GREAT, 0, 1), (GREAT, 0, 0, 1), None, "l", [1, 0, 1, 1], (1, 0, 1)]:
            self.assert_refused(NoPlain, tables_of(["l", "r"]), table)

    def test_a_table_that_is_too_long(self):
        for table in [(1, 401, 0, 1), (1, 0, 401, 1), product(table_of("lr" * 200), table_of("l")),
                      (1, GREAT, 0, 1), (1, 0, GREAT, 1), (GREAT, GREAT - 1, 1, 1)]:
            self.assert_refused(TooLong, tables_of(["l", "r"]), table)
            # No row makes it, but it is refused all the same.
            self.assert_refused(TooLong, tables_of(["lrlr"]), table)

    def test_several_faults_at_once(self):
        for table in [(2, 0, 0, 1), (1, -GREAT, 0, 1), (1, 401, 0, 1), (1, GREAT, 0, 1)]:
            for bad in self.bad_makers():
                self.assert_refused(NoMakers, [bad], table)
                self.assert_refused(NoMakers, [table_of("l"), bad, ONE], table)
            self.assert_refused(NoMakers, [], table)
            self.assert_refused(NoMakers, [table_of("l")] * 9, table)
        self.assert_refused(NoPlain, [table_of("l")], (1, -GREAT, 0, 1))


class Lists(unittest.TestCase):
    def test_the_makers_are_as_they_were(self):
        for asked in ASKED:
            for words, text in [(["r", "l", "lr", "l"], "lrlr"), (["rr"], "lrlr")]:
                makers = tables_of(words)
                asked(makers, table_of(text))
                self.assertEqual(makers, tables_of(words))

    def test_a_told_list_is_the_askers_own(self):
        makers = tables_of(["l", "lr", "r"])
        for asked in [least_row, reached]:
            for text in ["", "l", "llrr"]:
                table = table_of(text)
                first = asked(makers, table)
                kept = list(first)
                again = asked(makers, table)
                self.assertEqual(again, kept)
                self.assertIsNot(again, first)
                first.append(99)
                first[0] = 77
                self.assertEqual(again, kept)
                self.assertEqual(asked(makers, table), kept)
                self.assertEqual(makers, tables_of(["l", "lr", "r"]))

    def test_makers_changed_later_change_no_told_list(self):
        makers = tables_of(["l", "r"])
        row, places = least_row(makers, table_of("lr")), reached(makers, table_of("lr"))
        makers.clear()
        self.assertEqual((row, places), ([0, 1], [0, 1, 2]))


if __name__ == "__main__":
    unittest.main()
