"""Point 25: mills; and point 2, of what quadwords/mills.py takes and tells."""

import copy
import random
import unittest

from quadwords.errors import NoBack, NoMakers, NoPlain, TooLong
from quadwords.mills import Mill
from quadwords.plain import table_of
from quadwords.rows import least_row, many_rows, reached
from quadwords.tables import product_of
from plain_makers import GREAT, ONE, any_text, plain_tables, refused_plain, some_plain

NOT_PLAIN = [(0, 0, 0, 0), (1, -1, 0, 1), (-1, 0, 0, -1), (2, 0, 0, 1), (0, 1, 1, 0), (GREAT, 0, 0, GREAT),
             (1, -GREAT, 0, 1)]
TOO_LONG = [(1, 401, 0, 1), (1, 0, 401, 1), (1, GREAT, 0, 1), (1, 0, GREAT, 1)]


def told(mill):
    """All that a mill tells."""
    return (mill.text(), mill.table(), mill.ways(), mill.least(), mill.places(), mill.rests())


def reckoned(words, read):
    """What a mill of these words is to tell when tables of these texts were read, reckoned from the end of the text."""
    text = "".join(read)
    ways, least = {len(text): 1}, {len(text): []}
    for start in range(len(text) - 1, -1, -1):
        ends = [(number, start + len(word)) for number, word in enumerate(words) if text.startswith(word, start)]
        ways[start] = sum(ways[end] for number, end in ends)
        rows = [[number] + least[end] for number, end in ends if least[end] is not None]
        least[start] = sorted(rows, key=lambda row: (len(row), row))[0] if rows else None
    places = {0}
    for place in range(len(text) + 1):
        if place in places:
            places |= {place + len(word) for word in words if text.startswith(word, place)}
    rests = {word[len(text) - place:] for place in places for word in words
             if len(word) > len(text) - place and word[:len(text) - place] == text[place:]}
    table = product_of([(1, 0, 1, 1) if letter == "l" else (1, 1, 0, 1) for letter in text])
    return (text, table, ways[0], least[0], sorted(places), sorted(rests))


class Mills(unittest.TestCase):
    def assert_told(self, mill, words, read):
        answers = told(mill)
        self.assertEqual(answers, reckoned(words, read))
        self.assertIsInstance(answers[0], str)
        self.assertIsInstance(answers[1], tuple)
        self.assertTrue(all(isinstance(answers[place], list) for place in [4, 5]))
        self.assertTrue(answers[3] is None or isinstance(answers[3], list))
        makers, table = plain_tables(words), answers[1]
        self.assertEqual(answers[2:5], (many_rows(makers, table), least_row(makers, table), reached(makers, table)))

    def test_written_ones(self):
        mill = Mill(plain_tables(["lr", "l", "rl"]))
        self.assertEqual(told(mill), ("", ONE, 1, [], [0], ["l", "lr", "rl"]))
        self.assertEqual(mill.read(table_of("l")), 1)
        self.assertEqual(told(mill), ("l", table_of("l"), 1, [1], [0, 1], ["l", "lr", "r", "rl"]))
        self.assertEqual(mill.read(table_of("rl")), 3)
        self.assertEqual(told(mill), ("lrl", table_of("lrl"), 2, [0, 1], [0, 1, 2, 3], ["l", "lr", "r", "rl"]))
        self.assertEqual(mill.read(table_of("rr")), 5)
        self.assertEqual(told(mill), ("lrlrr", table_of("lrlrr"), 0, None, [0, 1, 2, 3, 4], ["l"]))
        self.assertEqual(mill.read(table_of("r")), 6)
        self.assertEqual(told(mill)[4:], ([0, 1, 2, 3, 4], []))
        self.assertEqual([mill.take_back() for each in range(4)], [5, 3, 1, 0])
        self.assertEqual(told(mill), ("", ONE, 1, [], [0], ["l", "lr", "rl"]))

    def test_rests_of_words_begun_at_several_places(self):
        mill = Mill(plain_tables(["llll", "ll", "lllr", "r"]))
        mill.read(table_of("ll"))
        self.assertEqual(mill.rests(), ["ll", "llll", "lllr", "lr", "r"])
        mill.read(table_of("l"))
        self.assertEqual(mill.rests(), ["l", "lll", "llr", "r"])
        mill.read(table_of("r"))
        # A word that is just what stands from a place reached to the end has no rest of its own.
        self.assertEqual(mill.rests(), ["ll", "llll", "lllr", "r"])

    def test_whatever_is_read_and_taken_back(self):
        chance = random.Random(1)
        for words in some_plain(2, 80, 4) + some_plain(3, 20, 12):
            mill, read = Mill(plain_tables(words)), []
            for each in range(25):
                if read and chance.random() < 0.35:
                    read.pop()
                    self.assertEqual(mill.take_back(), len("".join(read)))
                else:
                    read.append(chance.choice([chance.choice(words), any_text(chance, 0, 3), chance.choice(words)[:2]]))
                    self.assertEqual(mill.read(table_of(read[-1])), len("".join(read)))
                self.assert_told(mill, words, read)
            while read:
                read.pop()
                self.assertEqual(mill.take_back(), len("".join(read)))
                self.assert_told(mill, words, read)

    def test_tables_of_one(self):
        mill = Mill(plain_tables(["lr"]))
        self.assertEqual([mill.read(ONE), mill.read(table_of("l")), mill.read(ONE), mill.read(ONE)], [0, 1, 1, 1])
        self.assert_told(mill, ["lr"], ["l"])
        self.assertEqual([mill.take_back() for each in range(4)], [1, 1, 0, 0])
        with self.assertRaises(NoBack):
            mill.take_back()
        self.assertEqual(told(mill), ("", ONE, 1, [], [0], ["lr"]))

    def test_long_texts(self):
        chance = random.Random(4)
        for words in [["l", "ll", "lr", "r"], ["lr" * 20, "lrl", "rlr"], ["l"] * 8, ["l" * 40, "l" * 39, "r"]]:
            mill, read = Mill(plain_tables(words)), []
            while len("".join(read)) <= 400 - 40:
                read.append(chance.choice(words))
                mill.read(table_of(read[-1]))
            self.assert_told(mill, words, read)
            read.append("l" * (400 - len("".join(read))))
            self.assertEqual(mill.read(table_of(read[-1])), 400)
            self.assert_told(mill, words, read)
        mill = Mill(plain_tables(["l"] * 8))
        mill.read(table_of("l" * 400))
        self.assertEqual((mill.ways(), mill.least(), mill.places()), (8 ** 400, [0] * 400, list(range(401))))

    def test_a_thousand_times(self):
        mill, words = Mill(plain_tables(["l", "lr"])), ["l", "lr", "l"]
        for each in range(250):
            self.assertEqual(mill.read(table_of("l")), 1)
            self.assertEqual(mill.read(table_of("rl")), 3)
            self.assertEqual(mill.take_back(), 1)
            self.assertEqual(mill.take_back(), 0)
        mill = Mill(plain_tables(words))
        for each in range(500):
            mill.read(table_of("l" if each < 400 else ""))
        self.assertEqual(mill.text(), "l" * 400)
        self.assertEqual(mill.ways(), 2 ** 400)
        self.assertEqual([mill.take_back() for each in range(500)], [400] * 100 + list(range(399, -1, -1)))

    def test_two_mills_beside_each_other(self):
        makers = plain_tables(["l", "lr"])
        one, other = Mill(makers), Mill(makers)
        one.read(table_of("lr"))
        self.assert_told(one, ["l", "lr"], ["lr"])
        self.assert_told(other, ["l", "lr"], [])
        other.read(table_of("l"))
        other.read(table_of("l"))
        one.take_back()
        self.assert_told(one, ["l", "lr"], [])
        self.assert_told(other, ["l", "lr"], ["l", "l"])
        with self.assertRaises(NoBack):
            one.take_back()
        self.assertEqual(other.take_back(), 1)


class Refusals(unittest.TestCase):
    def assert_refused(self, mill, table, error):
        before = copy.deepcopy(told(mill))
        with self.assertRaises(error):
            mill.read(table)
        self.assertEqual(told(mill), before)

    def test_no_makers(self):
        for makers in refused_plain():
            handed = copy.deepcopy(makers)
            with self.assertRaises(NoMakers):
                Mill(handed)
            self.assertEqual(handed, makers)

    def test_no_plain(self):
        mill = Mill(plain_tables(["l", "lr"]))
        for text in ["", "l", "lr", "l" * 397]:
            mill.read(table_of(text))
            for table in NOT_PLAIN:
                self.assert_refused(mill, table, NoPlain)

    def test_too_long(self):
        mill = Mill(plain_tables(["l", "lr"]))
        for table in TOO_LONG:
            self.assert_refused(mill, table, TooLong)
        self.assertEqual(mill.read(table_of("lr" * 100)), 200)
        for table in TOO_LONG + plain_tables(["l" * 201, "lr" * 200, "r" * 400]):
            self.assert_refused(mill, table, TooLong)
        self.assertEqual(mill.read(table_of("l" * 199)), 399)
        for table in plain_tables(["ll", "rr", "l" * 400]):
            self.assert_refused(mill, table, TooLong)
        self.assertEqual(mill.read(table_of("r")), 400)
        self.assertEqual(mill.read(ONE), 400)
        for table in plain_tables(["l", "r", "lr"]):
            self.assert_refused(mill, table, TooLong)
        # What was refused is not there to be taken back.
        self.assertEqual([mill.take_back() for each in range(4)], [400, 399, 200, 0])
        with self.assertRaises(NoBack):
            mill.take_back()

    def test_just_four_hundred_at_once(self):
        mill = Mill(plain_tables(["l", "lr"]))
        self.assertEqual(mill.read(table_of("lr" * 200)), 400)
        self.assert_refused(mill, table_of("l"), TooLong)
        self.assert_refused(mill, (1, -GREAT, 0, 1), NoPlain)
        self.assertEqual(mill.take_back(), 0)
        self.assertEqual(mill.read(table_of("l" * 400)), 400)

    def test_no_back(self):
        mill = Mill(plain_tables(["l"]))
        for each in range(3):
            before = told(mill)
            with self.assertRaises(NoBack):
                mill.take_back()
            self.assertEqual(told(mill), before)
        mill.read(table_of("l"))
        self.assertEqual(mill.take_back(), 0)
        with self.assertRaises(NoBack):
            mill.take_back()
        self.assertEqual(mill.read(table_of("ll")), 2)


class Lists(unittest.TestCase):
    def test_told_lists_are_the_askers_own(self):
        mill = Mill(plain_tables(["l", "lr", "r"]))
        for text in ["", "l", "lrlr"]:
            mill.read(table_of(text))
            kept = copy.deepcopy(told(mill))
            for asked in [mill.least, mill.places, mill.rests]:
                first, again = asked(), asked()
                self.assertIsNot(first, again)
                first.append(99)
                first[0] = 77
                first.reverse()
                self.assertEqual(told(mill), kept)

    def test_the_makers_changed_later_change_nothing(self):
        makers = plain_tables(["l", "lr"])
        mill = Mill(makers)
        mill.read(table_of("llr"))
        kept = told(mill)
        makers[0] = table_of("r")
        makers.append(table_of("llr"))
        self.assertEqual(told(mill), kept)
        makers.clear()
        self.assertEqual(told(mill), kept)
        self.assertEqual(mill.read(table_of("l")), 4)
        self.assertEqual(told(mill), reckoned(["l", "lr"], ["llr", "l"]))

    def test_the_makers_are_as_they_were(self):
        makers = plain_tables(["l", "lr", "l"])
        mill = Mill(makers)
        mill.read(table_of("lr"))
        told(mill)
        mill.take_back()
        self.assertEqual(makers, plain_tables(["l", "lr", "l"]))


if __name__ == "__main__":
    unittest.main()
