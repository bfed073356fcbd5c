"""Point 5: plain tables and words; and point 2, of what quadwords/plain.py takes and tells."""

import itertools
import random
import unittest

from quadwords.errors import NoPlain, NoWord, TooLong
from quadwords.plain import is_plain, table_of, word_of

ONE = (1, 0, 0, 1)
GREAT = 10 ** 200 - 1
SIGNS = [chr(code) for code in range(32, 127) if chr(code) not in "lr%"] + ["\n"]


def made_by(word):
    """The table of a text, column by column: a letter behind adds one column to the other."""
    a, b, c, d = ONE
    for letter in word:
        if letter == "l":
            a, c = a + b, c + d
        else:
            b, d = a + b, c + d
    return (a, b, c, d)


def short_words(most):
    return ["".join(letters) for many in range(most + 1) for letters in itertools.product("lr", repeat=many)]


def long_words(length):
    chance = random.Random(length)
    words = ["l" * length, "r" * length, ("lr" * length)[:length], ("rl" * length)[:length],
             "l" * (length - 1) + "r", "r" + "l" * (length - 1), ("llrrr" * length)[:length]]
    for each in range(20):
        words.append("".join(chance.choice("lr") for place in range(length)))
    return words


class TableOf(unittest.TestCase):
    def test_the_empty_text_and_the_letters(self):
        self.assertEqual(table_of(""), (1, 0, 0, 1))
        self.assertEqual(table_of("l"), (1, 0, 1, 1))
        self.assertEqual(table_of("r"), (1, 1, 0, 1))

    def test_written_ones(self):
        self.assertEqual(table_of("lr"), (1, 1, 1, 2))
        self.assertEqual(table_of("rl"), (2, 1, 1, 1))
        self.assertEqual(table_of("lll"), (1, 0, 3, 1))
        self.assertEqual(table_of("rr"), (1, 2, 0, 1))
        self.assertEqual(table_of("rrl"), (3, 2, 1, 1))
        self.assertEqual(table_of("lrr"), (1, 2, 1, 3))

    def test_short_texts(self):
        for word in short_words(9):
            self.assertEqual(table_of(word), made_by(word))

    def test_texts_of_up_to_four_hundred(self):
        for length in [39, 40, 41, 399, 400]:
            for word in long_words(length):
                self.assertEqual(table_of(word), made_by(word))
        self.assertEqual(table_of("r" * 400), (1, 400, 0, 1))
        self.assertEqual(table_of("l" * 400), (1, 0, 400, 1))

    def test_refused_above_four_hundred(self):
        for length in [401, 402, 800, 4000]:
            for word in ["l" * length, "r" * length, ("lr" * length)[:length]]:
                with self.assertRaises(NoWord):
                    table_of(word)

    def test_refused_with_another_sign(self):
        for sign in SIGNS:
            for word in [sign, sign + "l", "r" + sign, "lr" + sign + "rl", sign * 2, "l" * 399 + sign]:
                with self.subTest(word=word), self.assertRaises(NoWord):
                    table_of(word)

    def test_refused_with_another_sign_at_any_place(self):
        word = ("lrrll" * 80)[:400]
        for length in [7, 400]:
            for place in range(length):
                for sign in "LRuvx 1\n-":
                    with self.assertRaises(NoWord):
                        table_of(word[:place] + sign + word[place + 1:length])

    def test_refused_where_it_is_no_text(self):
        for thing in [None, True, False, 0, 1, [], ["l"], ["l", "r"], (), ("l",), ONE, [[]]]:
            with self.assertRaises(NoWord):
                table_of(thing)


class IsPlain(unittest.TestCase):
    def test_what_words_make(self):
        for word in short_words(7) + long_words(400) + long_words(401) + long_words(900):
            self.assertIs(is_plain(made_by(word)), True)
        self.assertIs(is_plain((1, GREAT, 0, 1)), True)
        self.assertIs(is_plain((1, 0, GREAT, 1)), True)

    def test_small_tables_by_the_words_that_make_them(self):
        # Numbers of at most 4 are made by words of at most 7 letters alone, so all of these are found.
        made = {made_by(word) for word in short_words(8)}
        for table in itertools.product([-1, 0, 1, 2, 3, 4], repeat=4):
            self.assertIs(is_plain(table), table in made)

    def test_a_number_below_0_at_each_place(self):
        tables = [(1, -1, 0, 1), (1, 0, -1, 1), (-1, 0, 0, -1), (-1, 5, 0, -1), (-1, 0, 5, -1), (0, -1, 1, 0),
                  (0, 1, -1, 0), (0, -1, 1, 3), (3, -1, 1, 0), (3, 1, -1, 0), (-2, -1, -1, -1), (-1, -1, 2, 1),
                  (1, 2, -1, -1), (1, -GREAT, 0, 1), (1, 0, -GREAT, 1)]
        for table in tables:
            self.assertEqual(table[0] * table[3] - table[1] * table[2], 1)
            self.assertIs(is_plain(table), False)
        for place in range(4):
            table = list(made_by("lrrl"))
            table[place] = -table[place]
            self.assertIs(is_plain(tuple(table)), False)

    def test_another_worth(self):
        tables = [(0, 0, 0, 0), (0, 1, 1, 0), (1, 1, 1, 1), (1, 2, 1, 1), (2, 0, 0, 1), (2, 1, 1, 2), (1, 1, 0, 2),
                  (GREAT, 0, 0, 1), (GREAT, GREAT, GREAT, GREAT), (1, GREAT, 1, 1)]
        for table in tables:
            self.assertIs(is_plain(table), False)


class WordOf(unittest.TestCase):
    def test_written_ones(self):
        self.assertEqual(word_of((1, 0, 0, 1)), "")
        self.assertEqual(word_of((1, 0, 1, 1)), "l")
        self.assertEqual(word_of((1, 1, 0, 1)), "r")
        self.assertEqual(word_of((1, 1, 1, 2)), "lr")
        self.assertEqual(word_of((2, 1, 1, 1)), "rl")
        self.assertEqual(word_of((1, 400, 0, 1)), "r" * 400)
        self.assertEqual(word_of((1, 0, 400, 1)), "l" * 400)

    def test_the_one_word_that_makes_the_table(self):
        for word in short_words(10):
            self.assertEqual(word_of(made_by(word)), word)

    def test_words_of_up_to_four_hundred(self):
        for length in [39, 40, 41, 399, 400]:
            for word in long_words(length):
                self.assertEqual(word_of(made_by(word)), word)
                self.assertEqual(word_of(table_of(word)), word)

    def test_all_small_plain_tables(self):
        for table in itertools.product(range(8), repeat=4):
            if table[0] * table[3] - table[1] * table[2] == 1:
                self.assertEqual(made_by(word_of(table)), table)

    def test_refused_where_it_is_not_plain(self):
        tables = [(0, 0, 0, 0), (0, 1, 1, 0), (1, 1, 1, 1), (2, 0, 0, 1), (-1, 0, 0, -1), (1, -1, 0, 1), (1, 0, -1, 1),
                  (0, -1, 1, 0), (0, 1, -1, 0), (3, 1, -1, 0), (1, 2, 1, 1)]
        for table in tables:
            with self.assertRaises(NoPlain):
                word_of(table)

    def test_no_plain_goes_ahead_of_too_long(self):
        tables = [(1, -GREAT, 0, 1), (1, 0, -GREAT, 1), (-1, GREAT, 0, -1), (GREAT, 0, 0, 1), (1, GREAT, 1, 1),
                  (GREAT, GREAT, GREAT, GREAT), (GREAT, 1, 0, 1), (1, -401, 0, 1), (401, 0, 0, 1), (1, 401, 0, 2)]
        for table in tables:
            with self.assertRaises(NoPlain):
                word_of(table)

    def test_refused_where_the_word_has_more_than_four_hundred(self):
        for length in [401, 402, 500, 4000]:
            for word in long_words(length):
                with self.assertRaises(TooLong):
                    word_of(made_by(word))

    def test_refused_where_a_number_has_two_hundred_figures(self):
        half = 10 ** 100 - 1
        tables = [(1, GREAT, 0, 1), (1, 0, GREAT, 1), (GREAT, GREAT - 1, 1, 1), (1, 1, GREAT - 1, GREAT),
                  (1 + half * half, half, half, 1), (1, half, half, 1 + half * half)]
        for table in tables:
            self.assertIs(is_plain(table), True)
            with self.assertRaises(TooLong):
                word_of(table)

    def test_refused_where_it_is_no_table(self):
        for thing in [None, True, 1, "", "lr", [], [1, 0, 0, 1], (1, 0, 0), (1, 0, 0, 1, 0), (True, 0, 0, True), ("l",)]:
            with self.assertRaises(NoPlain):
                word_of(thing)


if __name__ == "__main__":
    unittest.main()
