"""Point 26: roots of wide tables, and turners; and point 2, of what quadwords/roots.py takes and tells."""

import itertools
import random
import unittest

from quadwords.errors import NoWide, TooLong
from quadwords.roots import root_of, turner
from quadwords.tables import back, product, product_of
from quadwords.wide import is_wide, reduced, wide_table, wide_word
from wide_makers import GREAT, ONE, any_word, turned

NOT_WIDE = [(0, 0, 0, 0), (1, 1, 0, 1), (1, 0, 1, 1), (-1, 0, 0, -1), (3, 2, 4, 3), (1, 2, 2, 1), (GREAT, 0, 0, GREAT),
            (1, GREAT, 0, 1)]
TOO_LONG = [(1, 802, 0, 1), (1, 0, -802, 1), (1, GREAT - 1, 0, 1), (1, 0, 1 - GREAT, 1),
            product(wide_table("uv" * 200), wide_table("u"))]
# Words that are taken of no other one, so that each is its own root, and go round without a stem.
ROUND = ["u", "v", "U", "V", "uv", "uV", "vvu", "uvUV", "uvuV", "uuvv", "uvuvv", "UVUVVU"]


def reduced_words(most):
    """All reduced words of at most so many letters."""
    told, level = [""], [""]
    for length in range(most):
        level = [word + letter for word in level for letter in "uvUV" if not word.endswith(letter.swapcase())]
        told += level
    return told


class RootOf(unittest.TestCase):
    def assert_root(self, word, root, many):
        table = wide_table(word)
        told = root_of(table)
        self.assertIsInstance(told, tuple)
        self.assertEqual(told, (wide_table(root), many))
        self.assertIs(type(told[1]), int)
        self.assertEqual(product_of([told[0]] * told[1]), table)
        self.assertIs(is_wide(told[0]), True)
        self.assertEqual(root_of(told[0]), (told[0], 1))

    def test_written_ones(self):
        for word, root, many in [("u", "u", 1), ("uu", "u", 2), ("VVV", "V", 3), ("uv", "uv", 1), ("uvuv", "uv", 2),
                                 ("uvU", "uvU", 1), ("uvvU", "uvU", 2), ("uvuvu", "uvuvu", 1), ("uuvuuv", "uuv", 2),
                                 ("UvUvUv", "Uv", 3), ("vuvuV", "vuvuV", 1), ("vuuuV", "vuV", 3),
                                 ("uuvuvU", "uuvU", 2)]:
            self.assert_root(word, root, many)

    def test_words_taken_one_to_twelve_times(self):
        for word, many in itertools.product(ROUND, range(1, 13)):
            self.assert_root(word * many, word, many)

    def test_turned_by_a_stem(self):
        for word, many in itertools.product(ROUND, range(1, 13)):
            for stem in ["u", "V", "uv", "vU", "uvUVuv", "VVVVV"]:
                around = stem + word * many + turned(stem)
                self.assert_root(reduced(around), reduced(stem + word + turned(stem)), many)

    def test_backs(self):
        for word, many in itertools.product(ROUND, range(1, 13)):
            self.assert_root(turned(word * many), turned(word), many)
            self.assert_root(reduced("uV" + turned(word) * many + "vU"), reduced("uV" + turned(word) + "vU"), many)

    def test_one_letter_four_hundred_times(self):
        for letter in "uvUV":
            self.assert_root(letter * 400, letter, 400)
            self.assert_root(letter * 399, letter, 399)

    def test_long_words(self):
        self.assert_root("uv" * 200, "uv", 200)
        self.assert_root("uuv" * 133, "uuv", 133)
        self.assert_root("uvuVVuvvUV" * 40, "uvuVVuvvUV", 40)
        word = "uv" * 99 + "uu"
        self.assert_root(word * 2, word, 2)
        self.assert_root("u" * 399 + "v", "u" * 399 + "v", 1)

    def test_a_long_stem_round_two_letters(self):
        for stem, core in [("uvUV" * 49 + "uvU", "V"), ("uvUV" * 49 + "uvU", "v"), ("v" * 199, "u"),
                           ("uV" * 99 + "u", "V")]:
            self.assert_root(stem + core * 2 + turned(stem), stem + core + turned(stem), 2)
        stem = "v" * 199
        self.assert_root(stem + "u" + turned(stem), stem + "u" + turned(stem), 1)
        self.assert_root("v" * 198 + "uvu" + "V" * 198, "v" * 198 + "uvu" + "V" * 198, 1)

    def test_as_great_as_can_be(self):
        greatest = {}
        words = reduced_words(6)
        for word in words[1:]:
            table = made = wide_table(word)
            for many in range(1, 7):
                if many > greatest.get(made, (ONE, 0))[1]:
                    greatest[made] = (table, many)
                made = product(made, table)
        for word in words[1:]:
            self.assertEqual(root_of(wide_table(word)), greatest[wide_table(word)])

    def test_of_one(self):
        self.assertIs(root_of(ONE), None)

    def test_refusals(self):
        for table in NOT_WIDE:
            with self.assertRaises(NoWide):
                root_of(table)
        for table in TOO_LONG:
            with self.assertRaises(TooLong):
                root_of(table)


class Turner(unittest.TestCase):
    def assert_turned(self, one, other):
        told = turner(one, other)
        self.assertIsInstance(told, tuple)
        self.assertIs(is_wide(told), True)
        self.assertEqual(product_of([back(told), one, told]), other)

    def test_of_a_table_and_itself(self):
        for word in ["", "u", "uvU", "uvuv", "vU" * 200, "u" * 400, "v" * 199 + "uu" + "V" * 199]:
            self.assert_turned(wide_table(word), wide_table(word))

    def test_turned_about_by_another(self):
        chance = random.Random(1)
        for each in range(500):
            one, by = any_word(chance, 0, 30), any_word(chance, 0, 30)
            other = reduced(turned(by) + one + by)
            self.assert_turned(wide_table(one), wide_table(other))
            self.assert_turned(wide_table(other), wide_table(one))

    def test_both_turned_about(self):
        chance = random.Random(2)
        for each in range(300):
            core, one, other = chance.choice(ROUND) * chance.randint(1, 4), any_word(chance, 0, 99), any_word(chance, 0, 99)
            words = [reduced(turned(by) + core + by) for by in [one, other]]
            self.assert_turned(wide_table(words[0]), wide_table(words[1]))

    def test_letters_turned_round(self):
        for word in ROUND + ["uvuuvvUV", "uvv" * 100, "u" * 399 + "v", "uV" * 200]:
            for start in sorted({0, 1, len(word) // 2, len(word) - 1}):
                self.assert_turned(wide_table(word), wide_table(word[start:] + word[:start]))

    def test_as_long_as_may_be(self):
        for one, other in [("v" * 199 + "uu" + "V" * 199, "V" * 199 + "uu" + "v" * 199),
                           ("u" * 399 + "v", "v" + "u" * 399),
                           ("u" * 200 + "v" * 200, "v" * 200 + "u" * 200), ("u" * 198 + "vuvv" + "U" * 198, "uvvv")]:
            self.assert_turned(wide_table(one), wide_table(other))
            self.assert_turned(wide_table(other), wide_table(one))

    def test_unlike_ones(self):
        for one, other in [("u", "v"), ("u", "uu"), ("", "u"), ("u", ""), ("uv", "uV"), ("uuvv", "uvuv"), ("uvU", "u"),
                           ("uvUV", "uVUv"), ("u" * 400, "u" * 399), ("uv" * 200, "uv" * 199 + "vu"), ("uvuv", "uv")]:
            self.assertIs(turner(wide_table(one), wide_table(other)), None)
            self.assertIs(turner(wide_table(other), wide_table(one)), None)

    def test_of_a_table_and_its_back(self):
        for word in reduced_words(5)[1:] + ["uv" * 200, "u" * 400]:
            self.assertIs(turner(wide_table(word), back(wide_table(word))), None)

    def test_of_ones(self):
        self.assert_turned(ONE, ONE)
        for word in reduced_words(3)[1:]:
            self.assertIs(turner(ONE, wide_table(word)), None)
            self.assertIs(turner(wide_table(word), ONE), None)

    def test_all_short_words(self):
        words = reduced_words(4)
        tables = [wide_table(word) for word in words]
        kin = {(one, product_of([back(by), one, by])) for one in tables for by in tables}
        for one, other in itertools.product(tables, repeat=2):
            if (one, other) in kin:
                self.assert_turned(one, other)
            else:
                self.assertIs(turner(one, other), None)

    def test_as_roots_tell_it(self):
        # What is turned into one another has roots that are, and as often taken.
        for one, other in itertools.product([word * 2 for word in ROUND], repeat=2):
            found = turner(wide_table(one), wide_table(other))
            roots = [root_of(wide_table(word))[0] for word in [one, other]]
            self.assertIs(found is None, turner(roots[0], roots[1]) is None)

    def test_refusals(self):
        good = [wide_table("uv"), ONE]
        for error, tables in [(NoWide, NOT_WIDE), (TooLong, TOO_LONG)]:
            for bad in tables:
                for other in good:
                    with self.assertRaises(error):
                        turner(bad, other)
                    with self.assertRaises(error):
                        turner(other, bad)
                # All of the first table goes ahead of the second.
                for other in NOT_WIDE + TOO_LONG:
                    with self.assertRaises(error):
                        turner(bad, other)


if __name__ == "__main__":
    unittest.main()
