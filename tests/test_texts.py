"""Point 19: tables written and read; and point 2, of what quadwords/texts.py takes and tells."""

import random
import unittest

from quadwords.errors import NoText
from quadwords.plain import table_of
from quadwords.tables import product
from quadwords.texts import read_table, table_text
from quadwords.wide import wide_table

GREAT = 10 ** 200 - 1
NO_TEXTS = [None, True, False, 0, 1, -1, GREAT, [], (), [None], (1, 0, 0, 1), [1, 0, 0, 1], ["1,0,0,1"], ("1,0,0,1",),
            ("1", "0", "0", "1"), ["1", "0", "0", "1"], [[[[[["1,0,0,1"]]]]]], (1, (0, (0, (1, ())))), [True, False]]


class TableText(unittest.TestCase):
    def test_written_ones(self):
        for table, text in [((1, 0, -2, 1), "1,0,-2,1"), ((1, 0, 0, 1), "1,0,0,1"), ((0, 0, 0, 0), "0,0,0,0"),
                            ((-1, -10, 100, 7), "-1,-10,100,7"), ((12, 34, 56, 78), "12,34,56,78")]:
            self.assertEqual(table_text(table), text)
            self.assertIsInstance(table_text(table), str)

    def test_two_hundred_figures(self):
        table = (GREAT, -GREAT, 10 ** 199, -10 ** 199)
        text = ",".join(["9" * 200, "-" + "9" * 200, "1" + "0" * 199, "-1" + "0" * 199])
        self.assertEqual(table_text(table), text)
        self.assertEqual(read_table(text), table)

    def test_noughts_within_great_numbers(self):
        for many in [1, 63, 64, 65, 127, 128, 129, 191, 192, 193, 199]:
            numbers = (10 ** many, 10 ** many - 1, -(10 ** many + 1), 5 * 10 ** many + 10 ** (many // 2))
            self.assertEqual(table_text(numbers), ",".join(str(number) for number in numbers))

    def test_more_figures_than_can_be_read(self):
        # Of what was told here numbers may have any figures; they are written all the same.
        table = wide_table("uv" * 200)
        told = "1"
        for each in range(6):
            table = product(table, table)
        for number, text in zip(table, table_text(table).split(",")):
            self.assertGreater(len(text), 4300)
            told = 0
            for at in range(0, len(text), 100):
                told = told * 10 ** len(text[at:at + 100]) + int(text[at:at + 100])
            self.assertEqual(told, number)
            self.assertNotEqual(text[0], "0")
        with self.assertRaises(NoText):
            read_table(table_text(table))

    def test_any_tables_are_read_again(self):
        chance = random.Random(1)
        for each in range(500):
            table = tuple(chance.choice([1, -1]) * chance.randrange(10 ** chance.randint(1, 200)) for place in range(4))
            text = table_text(table)
            self.assertEqual(text, ",".join(str(number) for number in table))
            self.assertEqual(read_table(text), table)
            self.assertEqual(table_text(read_table(text)), text)

    def test_words_tables_are_read_again(self):
        for table in [table_of("lr" * 200), table_of("l" * 400), wide_table("uV" * 200), wide_table("U" * 400)]:
            self.assertEqual(read_table(table_text(table)), table)


class ReadTable(unittest.TestCase):
    def assert_refused(self, thing):
        with self.assertRaises(NoText, msg=repr(thing)):
            read_table(thing)

    def test_written_ones(self):
        for text, table in [("1,0,-2,1", (1, 0, -2, 1)), ("0,0,0,0", (0, 0, 0, 0)), ("-1,-2,-3,-4", (-1, -2, -3, -4)),
                            ("10,20,-30,1000", (10, 20, -30, 1000)), ("9,9,9,9", (9, 9, 9, 9))]:
            told = read_table(text)
            self.assertEqual(told, table)
            self.assertIsInstance(told, tuple)
            self.assertTrue(all(type(number) is int for number in told))

    def test_things_that_are_no_text(self):
        for thing in NO_TEXTS:
            self.assert_refused(thing)

    def test_how_many_numbers(self):
        for text in ["", "1", "1,0", "1,0,0", "1,0,0,1,1", "1,0,0,1,", ",1,0,0,1", "1,,0,1", ",,,", "1,0,0,", ",0,0,1",
                     ",",
                     ",".join("1" * 1000)]:
            self.assert_refused(text)

    def test_figures(self):
        for part in ["00", "01", "-01", "-00", "-0", "+1", "+0", "-", "--1", "1-", "-+1", "1.0", "1e3", "1_000", "0x1",
                     "a",
                     "one", "\u0661", "\u00b2", "\uff11", "1\u0660", "l", "O", "1" * 201, "-" + "1" * 201, "9" * 3000,
                     "0" * 200, "1 0", "''", "(1)", "1/1", "~", "0b1", "1L"]:
            for place in range(4):
                parts = ["1", "0", "-2", "1"]
                parts[place] = part
                self.assert_refused(",".join(parts))

    def test_two_hundred_figures_and_one_more(self):
        for figures in ["1" * 200, "9" * 200, "1" + "0" * 199]:
            for sign in ["", "-"]:
                self.assertEqual(read_table(f"1,{sign}{figures},0,1"), (1, int(sign + figures), 0, 1))
                self.assert_refused(f"1,{sign}{figures}0,0,1")

    def test_blanks_and_line_ends(self):
        for sign in [" ", "\n", "\t", "\r", "\x0b", "\u00a0", "\u2028"]:
            for text in ["1,0,-2,1"]:
                for place in range(len(text) + 1):
                    self.assert_refused(text[:place] + sign + text[place:])
            self.assert_refused("1, 0, -2, 1".replace(" ", sign))
        for text in ["1,0,-2,1\n", "\n1,0,-2,1", " 1,0,-2,1 ", "1,0,-2,1\n\n", "\n", " "]:
            self.assert_refused(text)

    def is_written(self, text):
        """Whether a text of few signs is a written table, by writing what Python reads of it."""
        try:
            return ",".join(str(int(part)) for part in text.split(",")) == text and text.count(",") == 3
        except ValueError:
            return False

    def test_a_sign_put_in_exchanged_left_out_or_told_twice(self):
        signs = "".join(chr(code) for code in range(32, 127) if chr(code) != "%") + "\n"
        for text in ["1,0,-2,1", "10,-20,0,7"]:
            changed = [text[:at] + sign + text[at:] for at in range(len(text) + 1) for sign in signs]
            changed += [text[:at] + sign + text[at + 1:] for at in range(len(text)) for sign in signs]
            changed += [text[:at] + text[at + 1:] for at in range(len(text))]
            changed += [text[:at] + text[at] + text[at:] for at in range(len(text))]
            for other in changed:
                if self.is_written(other):
                    self.assertEqual(table_text(read_table(other)), other)
                else:
                    self.assert_refused(other)

    def test_any_texts(self):
        chance = random.Random(2)
        for each in range(3000):
            text = "".join(chance.choice("0011,,,-- ") for place in range(chance.randint(5, 10)))
            if self.is_written(text):
                self.assertEqual(table_text(read_table(text)), text)
            else:
                self.assert_refused(text)

    def test_long_texts(self):
        for text in ["1" * 4000, "1," * 2000, "," * 4000, "-" * 4000, " " * 4000, "1,0,0," + "1" * 3994, "\n" * 4000]:
            self.assert_refused(text)


if __name__ == "__main__":
    unittest.main()
