"""Point 4: tables; and point 2, of what quadwords/tables.py takes and tells."""

import itertools
import random
import unittest

from quadwords.errors import NoBack, QuadError
from quadwords.tables import back, is_table, product, product_of, worth

ONE = (1, 0, 0, 1)
GREAT = 10 ** 200 - 1
SMALL = list(itertools.product([-2, -1, 0, 1, 3], repeat=4))


def great_tables(many):
    chance = random.Random(4)
    return [tuple(chance.randint(-GREAT, GREAT) for place in range(4)) for each in range(many)]


def by_rows_and_columns(one, other):
    rows = [one[:2], one[2:]]
    columns = [other[0::2], other[1::2]]
    return tuple(sum(x * y for x, y in zip(row, column)) for row in rows for column in columns)


def worth_one_tables():
    chance = random.Random(14)
    tables = [each for each in SMALL if each[0] * each[3] - each[1] * each[2] == 1]
    for each in range(40):
        n, m = chance.randint(-10 ** 99, 10 ** 99), chance.randint(-10 ** 99, 10 ** 99)
        tables.append((1 + n * m, n, m, 1))
        tables.append((-1, -GREAT, 0, -1))
        tables.append((1, 0, n, 1))
    return tables


class IsTable(unittest.TestCase):
    def test_tuples_of_four_whole_numbers(self):
        for thing in [ONE, (0, 0, 0, 0), (-1, -2, -3, -4), (GREAT, -GREAT, 0, 5), *SMALL]:
            self.assertIs(is_table(thing), True)

    def test_tuples_of_another_length(self):
        for many in [0, 1, 2, 3, 5, 6, 8, 1000]:
            self.assertIs(is_table((1,) * many), False)

    def test_truths_among_the_numbers(self):
        for place in range(4):
            for truth in [True, False]:
                self.assertIs(is_table(ONE[:place] + (truth,) + ONE[place + 1:]), False)
        self.assertIs(is_table((True, False, False, True)), False)

    def test_other_things_among_the_numbers(self):
        for place in range(4):
            for thing in [None, "1", "", [], [1], (), (1,), ONE]:
                self.assertIs(is_table(ONE[:place] + (thing,) + ONE[place + 1:]), False)

    def test_anything_else(self):
        deep = ((((((1,),),),),),)
        things = [None, True, False, 0, 1, 4, GREAT, "", "1001", "abcd", "1,0,0,1", [], [1, 0, 0, 1], [ONE], (ONE,),
                  [[1, 0], [0, 1]], ((1, 0), (0, 1)), (ONE, ONE, ONE, ONE), ([1], [0], [0], [1]), deep, [deep] * 4,
                  ("1", "0", "0", "1"), (None, None, None, None), [1] * 1000, "1" * 4000]
        for thing in things:
            with self.subTest(thing=str(thing)[:40]):
                self.assertIs(is_table(thing), False)

    def test_a_list_asked_of_is_as_it_was(self):
        thing = [1, [0, (0, [1])], 1, 1]
        is_table(thing)
        self.assertEqual(thing, [1, [0, (0, [1])], 1, 1])


class Product(unittest.TestCase):
    def test_written_ones(self):
        self.assertEqual(product((1, 2, 3, 4), (5, 6, 7, 8)), (19, 22, 43, 50))
        self.assertEqual(product((5, 6, 7, 8), (1, 2, 3, 4)), (23, 34, 31, 46))
        self.assertEqual(product((1, 0, 1, 1), (1, 1, 0, 1)), (1, 1, 1, 2))
        self.assertEqual(product((1, 1, 0, 1), (1, 0, 1, 1)), (2, 1, 1, 1))
        self.assertEqual(product((-1, 2, 0, -3), (4, -5, -6, 7)), (-16, 19, 18, -21))

    def test_small_ones_by_rows_and_columns(self):
        for one, other in zip(SMALL, reversed(SMALL[1:] + SMALL[:1])):
            self.assertEqual(product(one, other), by_rows_and_columns(one, other))
        for at, one in enumerate(SMALL[::7]):
            other = SMALL[(at * 31) % len(SMALL)]
            self.assertEqual(product(one, other), by_rows_and_columns(one, other))

    def test_great_ones(self):
        tables = great_tables(60)
        for one, other in zip(tables, tables[1:]):
            told = product(one, other)
            self.assertIs(is_table(told), True)
            self.assertEqual(told, by_rows_and_columns(one, other))
        self.assertEqual(product((GREAT, 0, 0, GREAT), (GREAT, 1, -1, 0)), (GREAT * GREAT, GREAT, -GREAT, 0))

    def test_one_changes_nothing(self):
        for table in SMALL + great_tables(10):
            self.assertEqual(product(ONE, table), table)
            self.assertEqual(product(table, ONE), table)


class ProductOf(unittest.TestCase):
    def test_of_none_and_of_one(self):
        self.assertEqual(product_of([]), ONE)
        for table in SMALL + great_tables(10):
            self.assertEqual(product_of([table]), table)

    def test_from_the_first_on(self):
        self.assertEqual(product_of([(1, 2, 3, 4), (5, 6, 7, 8)]), (19, 22, 43, 50))
        self.assertEqual(product_of([(1, 0, 1, 1), (1, 1, 0, 1), (2, 0, 0, 3)]), (2, 3, 2, 6))

    def test_of_many(self):
        for tables in [SMALL[5:12], great_tables(9), [(1, 1, 0, 1)] * 7]:
            told = ONE
            for table in tables:
                told = by_rows_and_columns(told, table)
            self.assertEqual(product_of(tables), told)

    def test_of_a_thousand(self):
        self.assertEqual(product_of([(1, 1, 0, 1)] * 1000), (1, 1000, 0, 1))
        self.assertEqual(product_of([(1, 0, -2, 1)] * 1000), (1, 0, -2000, 1))
        self.assertEqual(product_of([(GREAT, 0, 0, -1)] * 1000), (GREAT ** 1000, 0, 0, 1))

    def test_the_list_is_as_it_was(self):
        tables = [(1, 2, 3, 4), (5, 6, 7, 8), (0, -1, 1, 0)]
        kept = list(tables)
        first = product_of(tables)
        self.assertEqual(tables, kept)
        self.assertEqual(product_of(tables), first)
        tables.append((0, 0, 0, 0))
        self.assertEqual(product_of(kept), first)
        self.assertEqual(product_of([]), ONE)


class Worth(unittest.TestCase):
    def test_written_ones(self):
        self.assertEqual(worth(ONE), 1)
        self.assertEqual(worth((1, 2, 3, 4)), -2)
        self.assertEqual(worth((-3, 5, 7, -2)), -29)
        self.assertEqual(worth((0, 1, -1, 0)), 1)
        self.assertEqual(worth((0, 0, 0, 0)), 0)
        self.assertEqual(worth((GREAT, 1, -1, GREAT)), GREAT * GREAT + 1)

    def test_the_worth_of_a_product(self):
        for tables in [SMALL[::3], great_tables(40)]:
            for one, other in zip(tables, tables[1:]):
                self.assertEqual(worth(product(one, other)), worth(one) * worth(other))
                self.assertEqual(worth(one), one[0] * one[3] - one[1] * one[2])


class Back(unittest.TestCase):
    def test_written_ones(self):
        self.assertEqual(back(ONE), ONE)
        self.assertEqual(back((1, 2, 0, 1)), (1, -2, 0, 1))
        self.assertEqual(back((2, 5, 1, 3)), (3, -5, -1, 2))
        self.assertEqual(back((0, 1, -1, 0)), (0, -1, 1, 0))

    def test_the_product_is_one_both_ways(self):
        for table in worth_one_tables():
            told = back(table)
            self.assertIs(is_table(told), True)
            self.assertEqual(by_rows_and_columns(table, told), ONE)
            self.assertEqual(by_rows_and_columns(told, table), ONE)
            self.assertEqual(back(told), table)

    def test_refused_where_the_worth_is_not_one(self):
        others = [each for each in SMALL + great_tables(20) if each[0] * each[3] - each[1] * each[2] != 1]
        others += [(1, 0, 0, -1), (0, 1, 1, 0), (0, 0, 0, 0), (2, 0, 0, 1), (GREAT, 0, 0, 1), (GREAT, 0, 0, GREAT)]
        for table in others:
            with self.assertRaises(NoBack):
                back(table)

    def test_refused_where_it_is_no_table(self):
        for thing in [None, True, 1, "", "1001", [], [1, 0, 0, 1], (1, 0, 0), (1, 0, 0, 1, 0), (True, 0, 0, 1)]:
            with self.assertRaises(NoBack):
                back(thing)

    def test_the_refusal_is_a_quad_error(self):
        with self.assertRaises(QuadError):
            back((1, 1, 1, 1))


if __name__ == "__main__":
    unittest.main()
