"""Point 11: wide tables and wide words; and point 2, of what quadwords/wide.py takes and tells."""

import itertools
import random
import re
import unittest

from quadwords.errors import NoWide, NoWord, TooLong
from quadwords.tables import product_of
from quadwords.wide import is_wide, reduced, wide_table, wide_word

ONE = (1, 0, 0, 1)
GREAT = 10 ** 200 - 1
BACKS = {"u": "U", "U": "u", "v": "V", "V": "v"}
LETTERS = {"u": (1, 2, 0, 1), "v": (1, 0, 2, 1), "U": (1, -2, 0, 1), "V": (1, 0, -2, 1)}
OTHER_SIGNS = [chr(code) for code in range(32, 127) if chr(code) not in "uvUV%"] + ["\n"]


def made_by(word):
    """The table of a text, column by column: a letter behind adds one column twice to the other."""
    a, b, c, d = ONE
    for letter in word:
        many = 2 if letter in "uv" else -2
        if letter in "uU":
            b, d = b + many * a, d + many * c
        else:
            a, c = a + many * b, c + many * d
    return (a, b, c, d)


def without_pairs(word):
    """A text with its pairs left out, one after another."""
    while re.search("uU|Uu|vV|Vv", word):
        word = re.sub("uU|Uu|vV|Vv", "", word, count=1)
    return word


def all_texts(most):
    return ["".join(letters) for many in range(most + 1) for letters in itertools.product("uvUV", repeat=many)]


def reduced_texts(most):
    return [text for text in all_texts(most) if without_pairs(text) == text]


def any_text(chance, length):
    return "".join(chance.choice("uvUV") for place in range(length))


def any_reduced(chance, length):
    word = ""
    while len(word) < length:
        word += chance.choice([letter for letter in "uvUV" if not word or letter != BACKS[word[-1]]])
    return word


def long_reduced(length):
    chance = random.Random(length)
    words = [letter * length for letter in "uvUV"]
    words += [(pair * length)[:length] for pair in ["uv", "uV", "Uv", "UV", "vu", "VU", "uuv", "UVV", "uvUV", "uuVVV"]]
    words += [word + "v" * (length - len(word)) for word in ["u", "U", "uv", "VVu"]]
    return words + [any_reduced(chance, length) for each in range(30)]


class WideTable(unittest.TestCase):
    def test_the_empty_text_and_the_letters(self):
        self.assertEqual(wide_table(""), (1, 0, 0, 1))
        self.assertEqual(wide_table("u"), (1, 2, 0, 1))
        self.assertEqual(wide_table("v"), (1, 0, 2, 1))
        self.assertEqual(wide_table("U"), (1, -2, 0, 1))
        self.assertEqual(wide_table("V"), (1, 0, -2, 1))

    def test_written_ones(self):
        self.assertEqual(wide_table("uv"), (5, 2, 2, 1))
        self.assertEqual(wide_table("vu"), (1, 2, 2, 5))
        self.assertEqual(wide_table("uV"), (-3, 2, -2, 1))
        self.assertEqual(wide_table("uU"), (1, 0, 0, 1))
        self.assertEqual(wide_table("uuu"), (1, 6, 0, 1))
        self.assertEqual(wide_table("uvUV"), (21, -8, 8, -3))

    def test_short_texts(self):
        for text in all_texts(5):
            self.assertEqual(wide_table(text), made_by(text))
            self.assertEqual(wide_table(text), product_of([LETTERS[letter] for letter in text]))

    def test_texts_of_up_to_four_hundred(self):
        chance = random.Random(11)
        for length in [10, 11, 399, 400]:
            for text in long_reduced(length) + [any_text(chance, length) for each in range(20)]:
                self.assertEqual(wide_table(text), made_by(text))
        self.assertEqual(wide_table("uU" * 200), ONE)
        self.assertEqual(wide_table("v" * 200 + "V" * 200), ONE)
        self.assertEqual(wide_table("u" * 400), (1, 800, 0, 1))
        self.assertEqual(wide_table("V" * 400), (1, 0, -800, 1))


class Reduced(unittest.TestCase):
    def test_written_ones(self):
        for text, told in [("", ""), ("u", "u"), ("uU", ""), ("Uu", ""), ("vV", ""), ("Vv", ""), ("uV", "uV"), ("uvVU", ""),
                           ("uvUV", "uvUV"), ("uvVUv", "v"), ("vuUuUu", "vu"), ("uuUUuuUU", ""), ("uUu", "u"),
                           ("vuvVUV", ""), ("vuvVUVuvVUU", "U"), ("uu", "uu"), ("uUvVuUvV", "")]:
            self.assertEqual(reduced(text), told)

    def test_pairs_within_pairs(self):
        chance = random.Random(12)
        for many in [1, 2, 3, 50, 199, 200]:
            half = any_text(chance, many)
            self.assertEqual(reduced(half + "".join(BACKS[letter] for letter in reversed(half))), "")
        inner = "uvVU" * 50
        self.assertEqual(reduced("v" * 100 + inner + "V" * 100), "")
        self.assertEqual(reduced("v" * 100 + inner + "V" * 99 + "u"), "vu")

    def test_short_texts(self):
        for text in all_texts(6):
            self.assertEqual(reduced(text), without_pairs(text))

    def test_texts_of_up_to_four_hundred(self):
        chance = random.Random(13)
        for length in [399, 400]:
            for text in [any_text(chance, length) for each in range(40)]:
                self.assertEqual(reduced(text), without_pairs(text))
            for text in long_reduced(length):
                self.assertEqual(reduced(text), text)


class NoWords(unittest.TestCase):
    def assert_refused(self, text):
        for asked in [wide_table, reduced]:
            with self.assertRaises(NoWord):
                asked(text)

    def test_more_than_four_hundred(self):
        for length in [401, 402, 800, 4000]:
            for text in ["u" * length, ("uvUV" * length)[:length], ("uU" * length)[:length], "v" * (length - 1) + "V"]:
                self.assert_refused(text)

    def test_another_sign(self):
        for sign in OTHER_SIGNS:
            for text in [sign, sign + "u", "V" + sign, "uv" + sign + "VU", sign * 2, "u" * 399 + sign, sign + "U" * 399]:
                self.assert_refused(text)

    def test_another_sign_at_any_place(self):
        word = ("uvvUVuV" * 80)[:400]
        for length in [7, 400]:
            for place in range(length):
                for sign in "lrwW 1\n-":
                    self.assert_refused(word[:place] + sign + word[place + 1:length])

    def test_another_sign_between_a_letter_and_its_back(self):
        for text in ["uxU", "xuU", "uUx", "vuUxV", "u U", "uU\n"]:
            self.assert_refused(text)

    def test_no_text(self):
        for thing in [None, True, False, 0, 1, [], ["u"], ["u", "U"], (), ("u",), ONE, [[]]]:
            self.assert_refused(thing)


class IsWide(unittest.TestCase):
    def test_what_texts_make(self):
        chance = random.Random(14)
        for text in all_texts(4) + long_reduced(400) + [any_text(chance, 900) for each in range(5)]:
            self.assertIs(is_wide(made_by(text)), True)

    def test_great_ones(self):
        even = GREAT - 1
        for table in [(1, even, 0, 1), (1, 0, even, 1), (1, -even, 0, 1), (1, 0, -even, 1)]:
            self.assertIs(is_wide(table), True)
        n = 10 ** 99
        self.assertIs(is_wide((1 + n * n, n, n, 1)), True)

    def test_another_worth(self):
        for table in [(0, 0, 0, 0), (5, 0, 0, 5), (5, 2, 2, 5), (1, 2, 2, 1), (-3, 0, 0, 1), (1, 0, 0, 5), (1, 2, 2, -3),
                      (5, 2, -2, 1), (GREAT - 2, 0, 0, 1), (-3, 0, 0, -3)]:
            self.assertIs(is_wide(table), False)

    def test_b_or_c_odd(self):
        for table in [(1, 1, 0, 1), (1, 0, 1, 1), (1, -1, 0, 1), (1, 0, -1, 1), (5, 1, 4, 1), (5, 4, 1, 1), (1, 3, 0, 1),
                      (1, GREAT, 0, 1), (1, 0, -GREAT, 1), (5, -4, -1, 1), (-3, 1, -4, 1), (9, 1, 8, 1)]:
            self.assertEqual(table[0] * table[3] - table[1] * table[2], 1)
            self.assertEqual((table[0] % 4, table[3] % 4), (1, 1))
            self.assertIs(is_wide(table), False)

    def test_a_or_d_leaving_3(self):
        for table in [(-1, 0, 0, -1), (3, 2, 4, 3), (3, 4, 2, 3), (-1, 2, 0, -1), (-1, 0, 2, -1), (-5, 2, 2, -1),
                      (3, -2, -4, 3), (7, 2, -4, -1), (-1, GREAT - 1, 0, -1), (11, 8, 4, 3), (3, 4, -4, -5)]:
            self.assertEqual(table[0] * table[3] - table[1] * table[2], 1)
            self.assertEqual((table[0] % 4, table[3] % 4, table[1] % 2, table[2] % 2), (3, 3, 0, 0))
            self.assertIs(is_wide(table), False)

    def test_only_one_of_a_and_d_leaving_1(self):
        for table in [(1, 1, 2, 3), (1, 2, 1, 3), (3, 1, 2, 1), (3, 2, 1, 1), (-1, 1, -2, 1), (1, 0, 0, -1), (1, 0, 0, 3)]:
            self.assertIs(is_wide(table), False)

    def test_a_and_d_even(self):
        for table in [(0, 1, -1, 0), (0, -1, 1, 0), (2, 1, 1, 1), (1, 1, 1, 2), (2, 3, 1, 2), (4, 3, 1, 1)]:
            self.assertIs(is_wide(table), False)

    def test_numbers_below_0(self):
        for table in [(-3, 2, -2, 1), (1, -2, 2, -3), (-3, -2, 2, 1), (-3, 4, 2, -3), (-7, 2, -4, 1), (-3, -4, -2, -3)]:
            self.assertEqual(table[0] * table[3] - table[1] * table[2], 1)
            self.assertIs(is_wide(table), True)

    def test_all_small_tables_by_the_texts_that_make_them(self):
        # Numbers of at most 5, whatever their sign, are made by reduced texts of at most 6 letters alone.
        made = {made_by(text) for text in reduced_texts(6)}
        for table in itertools.product(range(-5, 6), repeat=4):
            self.assertIs(is_wide(table), table in made)


class WideWord(unittest.TestCase):
    def test_written_ones(self):
        for table, word in [((1, 0, 0, 1), ""), ((1, 2, 0, 1), "u"), ((1, 0, 2, 1), "v"), ((1, -2, 0, 1), "U"),
                            ((1, 0, -2, 1), "V"), ((5, 2, 2, 1), "uv"), ((1, 2, 2, 5), "vu"), ((-3, 2, -2, 1), "uV"),
                            ((1, 800, 0, 1), "u" * 400), ((1, 0, -800, 1), "V" * 400), ((21, -8, 8, -3), "uvUV")]:
            self.assertEqual(wide_word(table), word)

    def test_the_one_reduced_word(self):
        words = reduced_texts(6)
        self.assertEqual(len({made_by(word) for word in words}), len(words))
        for word in words:
            self.assertEqual(wide_word(made_by(word)), word)

    def test_of_texts_that_are_not_reduced(self):
        chance = random.Random(15)
        for length in list(range(30)) + [399, 400]:
            for text in [any_text(chance, length) for each in range(10)]:
                self.assertEqual(wide_word(wide_table(text)), without_pairs(text))

    def test_words_of_up_to_four_hundred(self):
        for length in [10, 11, 100, 399, 400]:
            for word in long_reduced(length):
                self.assertEqual(wide_word(made_by(word)), word)

    def test_great_powers(self):
        for one, other in itertools.product("uU", "vV"):
            for many in [1, 2, 7, 99, 199]:
                for word in [one * many, other * many, one * many + other * many, other * many + one * many,
                             one + other * (2 * many), other + one * (2 * many), one * many + other + one * many]:
                    self.assertEqual(wide_word(made_by(word)), word)

    def test_all_small_wide_tables(self):
        for table in itertools.product(range(-7, 8), repeat=4):
            if is_wide(table):
                word = wide_word(table)
                self.assertEqual(made_by(word), table)
                self.assertEqual(without_pairs(word), word)

    def test_refused_where_it_is_not_wide(self):
        for table in [(0, 0, 0, 0), (1, 1, 0, 1), (1, 0, 1, 1), (-1, 0, 0, -1), (3, 2, 4, 3), (1, 2, 2, 1), (5, 0, 0, 1),
                      (2, 1, 1, 1), (0, 1, -1, 0), (1, 0, 0, -1), (-1, 2, 0, -1)]:
            with self.assertRaises(NoWide):
                wide_word(table)

    def test_refused_where_it_is_no_table(self):
        for thing in [None, True, 1, "", "uv", [], [1, 0, 0, 1], (1, 0, 0), (1, 0, 0, 1, 0), (True, 0, 0, True), ("u",)]:
            with self.assertRaises(NoWide):
                wide_word(thing)

    def test_no_wide_goes_ahead_of_too_long(self):
        even = GREAT - 1
        tables = [(1, GREAT, 0, 1), (1, 0, GREAT, 1), (-1, even, 0, -1), (-1, 0, -even, -1), (1, even, 2, 1),
                  (GREAT, GREAT, GREAT, GREAT), (even, 0, 0, 1), (1, 801, 0, 1), (1, 803, 0, 1), (-1, 802, 0, -1)]
        tables += [tuple(-number for number in made_by(word)) for word in long_reduced(401)]
        for table in tables:
            with self.assertRaises(NoWide):
                wide_word(table)

    def test_refused_where_the_reduced_word_has_more_than_four_hundred(self):
        self.assertEqual(len(wide_word((1, 800, 0, 1))), 400)
        for table in [(1, 802, 0, 1), (1, -802, 0, 1), (1, 0, 802, 1), (1, 0, -802, 1)]:
            with self.assertRaises(TooLong):
                wide_word(table)
        for length in [401, 402, 500, 4000]:
            for word in long_reduced(length):
                with self.assertRaises(TooLong):
                    wide_word(made_by(word))

    def test_refused_where_a_number_has_two_hundred_figures(self):
        even = GREAT - 1
        half = 10 ** 100 - 2
        tables = [(1, even, 0, 1), (1, -even, 0, 1), (1, 0, even, 1), (1, 0, -even, 1), (1 + half * half, half, half, 1),
                  (1, half, -half, 1 - half * half), (1 - half * half, -half, half, 1), (1 + 2 * even, even, 2, 1)]
        for table in tables:
            self.assertIs(is_wide(table), True)
            with self.assertRaises(TooLong):
                wide_word(table)

    def test_the_same_each_time(self):
        for word in long_reduced(60):
            self.assertEqual([wide_word(made_by(word)) for each in range(3)], [word] * 3)


if __name__ == "__main__":
    unittest.main()
