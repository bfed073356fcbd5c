"""Points 21, 22 and 23: counts, the share, the stuck text; and point 2, of what quadwords/counts.py takes and tells."""

import copy
import itertools
import math
import random
import unittest
from fractions import Fraction

from quadwords.counts import count_of_rows, count_of_tables, share, stuck
from quadwords.errors import NoCount, NoMakers
from quadwords.free import twins
from quadwords.plain import table_of
from quadwords.rows import many_rows
from plain_makers import GREAT, ONE, any_text, full_tree, plain_tables, refused_plain, some_plain, texts_made, texts_of

# Makers whose stuck texts have many letters, and makers that have none, though it takes many letters to tell.
LONG_STUCK = [["rl", "lllrlll", "lr", "lrl", "llll", "rll", "llr", "r"],
              ["lrllrl", "rl", "r", "llrll", "lr", "lll", "llrr", "rrll"],
              ["l", "lr", "rll", "rlr", "lrr", "rrrr", "rrl", "rrrlrrr"],
              ["lr", "l", "rrr", "rrlrr", "rl", "lrrlr", "rlrrl"],
              ["rll", "llrrrlr", "llrll", "lr", "r", "rlrl", "lrllr", "lll"]]
LONG_NONE = [["lrl", "r", "rrlr", "ll", "lrr", "rlrrlrrlrrlrrlrrl"],
             ["rlllrlllrlllrlllrl", "llrlll", "lr", "ll", "r", "r"],
             ["lrllrllrl", "rllrllrllrllrlrl", "r", "ll", "lr"]]
FAR = [10 ** 6, GREAT, -GREAT, -10 ** 6]


def rows_by_length(words, most):
    """For each length up to the most how many rows have so many letters: row by row, by how many makers they have."""
    level = {0: 1}
    told = [0] * (most + 1)
    while level:
        longer = {}
        for length, many in level.items():
            told[length] += many
            for word in words:
                if length + len(word) <= most:
                    longer[length + len(word)] = longer.get(length + len(word), 0) + many
        level = longer
    return told


def tables_by_windows(words, most):
    """For each length up to the most how many texts are made, told from their last letters and where rows end there."""
    window = max(len(word) for word in words)
    level = {("", (True,)): 1}
    told = []
    for length in range(most + 1):
        told.append(sum(many for (text, ends), many in level.items() if ends[-1]))
        longer = {}
        for (text, ends), many in level.items():
            for letter in "lr":
                last = (text + letter)[-window:]
                made = any(last.endswith(word) and len(word) <= len(ends) and ends[-len(word)] for word in words)
                key = (last, (ends + (made,))[-window:])
                longer[key] = longer.get(key, 0) + many
        level = longer
    return told


def is_part(words, text):
    """Whether a text is part of one that a row makes: within a word, or cut by ends of words."""
    if any(text in word for word in words):
        return True
    cuts = [any(word.endswith(text[:at]) for word in words) for at in range(len(text) + 1)]
    for at in range(len(text)):
        if cuts[at]:
            for word in words:
                if text.startswith(word, at):
                    cuts[at + len(word)] = True
    return any(cuts[at] and any(word.startswith(text[at:]) for word in words) for at in range(len(text) + 1))


def stuck_by_all(words, most):
    """The first of the shortest texts that are no part, of those of at most so many letters, or None."""
    for length in range(most + 1):
        for text in texts_of(length):
            if not is_part(words, text):
                return text
    return None


def longer_cuts(words, text, cuts):
    """Where words may end in a text, when its last letter is new; the cuts are those of the text without it."""
    begun = any(word.endswith(text) for word in words)
    ended = any(text.endswith(word) and cuts[len(text) - len(word)] for word in words)
    return cuts + [begun or ended]


def may_go_on(words, text, cuts):
    return any(text in word for word in words) or any(
        cut and any(word.startswith(text[at:]) for word in words) for at, cut in enumerate(cuts))


def stuck_by_windows(words):
    """The stuck text, told from the last letters of texts and where words may end there; texts in their order."""
    window = max(len(word) for word in words)
    seen, level = set(), [("", [True])]
    while level:
        longer = []
        for text, cuts in level:
            for more in [text + "l", text + "r"]:
                ends = longer_cuts(words, more, cuts)
                if not may_go_on(words, more, ends):
                    return more
                key = (more,) if len(more) < window else (more[-window:], tuple(ends[-window:]))
                if key not in seen:
                    seen.add(key)
                    longer.append((more, ends))
        level = longer
    return None


class CountOfRows(unittest.TestCase):
    def test_written_ones(self):
        for words, counts in [(["l"], [1, 1, 1, 1]), (["l", "r"], [1, 2, 4, 8]), (["l", "ll"], [1, 1, 2, 3, 5, 8]),
                              (["l", "l"], [1, 2, 4, 8]), (["lr"], [1, 0, 1, 0, 1]),
                              (["lrl", "rr"], [1, 0, 1, 1, 1, 2, 2]),
                              (["lr", "l", "rl"], [1, 1, 3, 5, 11])]:
            self.assertEqual([count_of_rows(plain_tables(words), n) for n in range(len(counts))], counts)

    def test_as_counted_by_another_way(self):
        for words in some_plain(1, 60, 12):
            told = rows_by_length(words, 60)
            self.assertEqual([count_of_rows(plain_tables(words), n) for n in range(61)], told)

    def test_as_the_sum_over_all_texts(self):
        for words in some_plain(2, 25, 4):
            makers = plain_tables(words)
            for n in range(8):
                self.assertEqual(count_of_rows(makers, n),
                                 sum(many_rows(makers, table_of(text)) for text in texts_of(n)))

    def test_four_hundred_letters(self):
        for many in range(1, 9):
            self.assertEqual(count_of_rows(plain_tables(["l"] * many), 400), many ** 400)
        self.assertEqual(count_of_rows(plain_tables(["lr" * 20]), 400), 1)
        self.assertEqual(count_of_rows(plain_tables(["lr" * 20]), 399), 0)
        for words in some_plain(3, 8, 40) + [["l" * 40, "l" * 39, "r" * 38], ["l", "r" * 40]]:
            told = rows_by_length(words, 400)
            self.assertEqual(count_of_rows(plain_tables(words), 400), told[400])
            self.assertEqual(count_of_rows(plain_tables(words), 399), told[399])

    def test_out_of_bounds(self):
        makers = plain_tables(["l", "lr"])
        for n in [-1, -2, 401, 402, 1000] + FAR:
            with self.assertRaises(NoCount):
                count_of_rows(makers, n)
        self.assertEqual(makers, plain_tables(["l", "lr"]))


class CountOfTables(unittest.TestCase):
    def test_written_ones(self):
        for words, counts in [(["l"], [1, 1, 1, 1]), (["l", "r"], [1, 2, 4, 8]), (["l", "ll"], [1, 1, 1, 1]),
                              (["l", "l"], [1, 1, 1]), (["lr"], [1, 0, 1, 0]), (["ll", "lll"], [1, 0, 1, 1, 1, 1]),
                              (["lr", "l", "rl"], [1, 1, 3, 4])]:
            self.assertEqual([count_of_tables(plain_tables(words), n) for n in range(len(counts))], counts)

    def test_over_all_texts_of_few_letters(self):
        for words in some_plain(11, 60, 5) + some_plain(12, 20, 12):
            made = texts_made(sorted(set(words)), 9)
            counts = [len([text for text in made if len(text) == n]) for n in range(10)]
            self.assertEqual([count_of_tables(plain_tables(words), n) for n in range(10)], counts)

    def test_up_to_forty_letters(self):
        for words in some_plain(13, 25, 5) + [["lr", "l", "rl"], ["ll", "lll", "rrr", "rlr"]]:
            told = tables_by_windows(words, 40)
            makers = plain_tables(words)
            self.assertEqual([count_of_tables(makers, n) for n in [38, 39, 40]], told[38:])
        self.assertEqual(count_of_tables(plain_tables(["l", "r"]), 40), 2 ** 40)
        self.assertEqual(count_of_tables(plain_tables(["l", "r", "lr", "rl", "llr", "r"]), 40), 2 ** 40)
        self.assertEqual(count_of_tables(plain_tables(["l"] * 8), 40), 1)

    def test_the_same_as_rows_where_makers_are_free_and_less_where_not(self):
        seen = []
        for words in some_plain(14, 80, 6) + [["l" * 12, "l" * 11], ["lr" * 6, "lr" * 5 + "l", "rl"]]:
            makers = plain_tables(words)
            free = twins(makers) is None
            seen.append(free)
            pairs = [(count_of_tables(makers, n), count_of_rows(makers, n)) for n in range(0, 41)]
            self.assertTrue(all(tables <= rows for tables, rows in pairs))
            self.assertIs(free, all(tables == rows for tables, rows in pairs))
        self.assertGreater(seen.count(True), 10)
        self.assertGreater(seen.count(False), 10)

    def test_makers_of_twelve_letters(self):
        words = ["lr" * 6, "rl" * 6, "lrlr", "l" * 12, "rlr", "lllll"]
        makers = plain_tables(words)
        made = texts_made(words, 24)
        for n in [12, 16, 20, 24]:
            self.assertEqual(count_of_tables(makers, n), len([text for text in made if len(text) == n]))
        self.assertEqual(count_of_tables(plain_tables(["l" * 12]), 36), 1)

    def test_out_of_bounds(self):
        makers = plain_tables(["l", "lr"])
        for n in [-1, -2, 41, 42, 400, 401] + FAR:
            with self.assertRaises(NoCount):
                count_of_tables(makers, n)
        self.assertEqual(makers, plain_tables(["l", "lr"]))

    def test_makers_that_are_too_long(self):
        for word in ["l" * 13, "lrlrlrlrlrlrl", "r" * 14, "lr" * 20]:
            for place, n in itertools.product(range(3), [0, 1, 40, -1, 41]):
                makers = plain_tables(["l", "lr", "r"])
                makers[place] = table_of(word)
                with self.assertRaises(NoCount):
                    count_of_tables(makers, n)
                # Of rows no such bound is told.
                if 0 <= n:
                    self.assertGreaterEqual(count_of_rows(makers, n), 1)


class Share(unittest.TestCase):
    def test_written_ones(self):
        for words, told in [(["l"], (1, 2)), (["l", "r"], (1, 1)), (["l", "l"], (1, 1)), (["l", "rl"], (3, 4)),
                            (["lr"], (1, 4)),
                            (["l"] * 3, (3, 2)), (["l"] * 8, (4, 1)), (["ll"] * 6, (3, 2)),
                            (["lrl", "l", "rr"], (7, 8)),
                            (["l" * 40], (1, 2 ** 40)), (["l" * 40, "r" * 39], (3, 2 ** 40)),
                            (["l", "lr" * 20], (2 ** 39 + 1, 2 ** 40)),
                            (["lr" * 20] * 8, (1, 2 ** 37)), (["l" * 40] * 7, (7, 2 ** 40)),
                            (["r"] * 7 + ["l"], (4, 1))]:
            self.assertEqual(share(plain_tables(words)), told)

    def test_in_lowest_terms(self):
        for words in some_plain(21, 200, 8) + some_plain(22, 100, 40):
            told = share(plain_tables(words))
            whole = sum(Fraction(1, 2 ** len(word)) for word in words)
            self.assertIsInstance(told, tuple)
            self.assertEqual(told, (whole.numerator, whole.denominator))
            self.assertEqual(math.gcd(*told), 1)
            self.assertTrue(all(type(number) is int and number >= 1 for number in told))

    def test_all_ends_of_a_full_tree(self):
        chance = random.Random(23)
        for each in range(100):
            words = full_tree(chance, chance.randint(2, 8))
            self.assertEqual(share(plain_tables(words)), (1, 1))
            self.assertEqual(share(plain_tables([word[::-1] for word in words])), (1, 1))

    def test_at_most_one_where_makers_are_free(self):
        for words in some_plain(24, 200, 5):
            top, bottom = share(plain_tables(words))
            if twins(plain_tables(words)) is None:
                self.assertLessEqual(top, bottom)


class Stuck(unittest.TestCase):
    def test_written_ones(self):
        for words, told in [(["l"], "r"), (["r"], "l"), (["l", "r"], None), (["lr"], "ll"), (["lr", "rl"], "lll"),
                            (["ll"], "r"),
                            (["l", "rl"], "rr"), (["l", "rl", "rr"], None), (["l", "r", "lr"], None),
                            (["l", "rlr"], "rrr"),
                            (["ll", "lr", "rl", "rr"], None), (["ll", "rr"], "lrl")]:
            self.assertEqual(stuck(plain_tables(words)), told)

    def test_by_all_short_texts(self):
        lengths = []
        for words in some_plain(31, 150, 5) + some_plain(32, 100, 3):
            if sum(len(word) for word in words) <= 30:
                told = stuck(plain_tables(words))
                if told is None or len(told) > 10:
                    self.assertIsNone(stuck_by_all(words, 10), words)
                else:
                    self.assertEqual(told, stuck_by_all(words, len(told)))
                self.assertEqual(told, stuck_by_windows(words))
                lengths.append(len(told or ""))
        self.assertGreater(lengths.count(0), 10)
        self.assertGreater(len(set(lengths)), 5)

    def test_full_trees_have_none(self):
        chance = random.Random(33)
        for each in range(60):
            words = full_tree(chance, chance.randint(2, 7))
            if sum(len(word) for word in words) <= 30:
                self.assertIsNone(stuck(plain_tables(words)))
                self.assertIsNone(stuck(plain_tables([word[::-1] for word in words])))
                without = words[1:]
                told = stuck(plain_tables(without))
                self.assertEqual(told, stuck_by_all(without, len(told)))

    def test_where_makers_are_free_none_just_where_the_share_is_one(self):
        free = 0
        for words in some_plain(34, 300, 4) + [["l", "r"], ["l", "rl", "rr"], ["ll", "lr", "r"],
                                               ["lll", "llr", "lr", "r"]]:
            makers = plain_tables(words)
            if sum(len(word) for word in words) <= 30 and twins(makers) is None:
                free += 1
                self.assertIs(stuck(makers) is None, share(makers) == (1, 1))
        self.assertGreater(free, 50)

    def test_long_ones(self):
        for words in LONG_STUCK:
            told = stuck(plain_tables(words))
            self.assertEqual(told, stuck_by_windows(words))
            self.assertGreater(len(told), 16)
            self.assertFalse(is_part(words, told))
            self.assertTrue(is_part(words, told[1:]) and is_part(words, told[:-1]))

    def test_none_after_many_letters(self):
        for words in LONG_NONE:
            self.assertIsNone(stuck(plain_tables(words)))
            self.assertIsNone(stuck_by_all(words, 9))
            chance = random.Random(36)
            for each in range(200):
                pieces = [chance.choice(words + ["l", "r"]) for place in range(chance.randint(1, 60))]
                self.assertTrue(is_part(words, "".join(pieces)))

    def test_makers_alike_and_made_of_others(self):
        for words in [["l", "rl"], ["lr", "rl"], ["ll", "rr"]]:
            told = stuck(plain_tables(words))
            self.assertEqual(stuck(plain_tables(words * 3)), told)
            self.assertEqual(stuck(plain_tables(words + [words[0] + words[1], words[1] * 2])), told)

    def test_thirty_letters_together(self):
        chance = random.Random(35)
        for many in range(1, 9):
            for each in range(10):
                cuts = [0] + sorted(chance.sample(range(1, 30), many - 1)) + [30]
                text = any_text(chance, 30, 30)
                words = [text[start:end] for start, end in zip(cuts, cuts[1:])]
                told = stuck(plain_tables(words))
                self.assertEqual(stuck_by_all(words, 8), told if told is None or len(told) <= 8 else None)
                if max(len(word) for word in words) <= 9:
                    self.assertEqual(told, stuck_by_windows(words))
                place = chance.randrange(many)
                longer = words[:place] + [words[place] + "l"] + words[place + 1:]
                with self.assertRaises(NoCount):
                    stuck(plain_tables(longer))

    def test_more_than_thirty_letters(self):
        for words in [["l" * 31], ["l" * 40], ["l", "r" * 30], ["l" * 15, "r" * 16], ["llll"] * 8, ["lr" * 20] * 8,
                      ["l", "r", "lr" * 15]]:
            with self.assertRaises(NoCount):
                stuck(plain_tables(words))
        self.assertEqual(stuck(plain_tables(["l" * 30])), "r")
        self.assertEqual(stuck(plain_tables(["lll"] * 8)), "r")
        self.assertIsNone(stuck(plain_tables(["l", "r", "lr" * 14])))


def askings():
    """Each question of this module, as one of makers alone; also with what is refused behind them."""
    told = [share, stuck]
    for n in [0, 5, -1, 41, 401, GREAT]:
        told += [lambda makers, n=n: count_of_rows(makers, n), lambda makers, n=n: count_of_tables(makers, n)]
    return told


class Refusals(unittest.TestCase):
    def test_no_makers_ahead_of_no_count(self):
        for makers in refused_plain():
            for asked in askings():
                handed = copy.deepcopy(makers)
                with self.assertRaises(NoMakers):
                    asked(handed)
                self.assertEqual(handed, makers)

    def test_a_bad_maker_behind_long_ones(self):
        long_ones = plain_tables(["l" * 40, "lr" * 20])
        for asked in askings():
            with self.assertRaises(NoMakers):
                asked(long_ones + [ONE])

    def test_the_longest_makers_are_taken(self):
        makers = plain_tables(["l" * 40, "r" * 40])
        self.assertEqual(count_of_rows(makers, 400), 2 ** 10)
        self.assertEqual(share(makers), (1, 2 ** 39))


class Lists(unittest.TestCase):
    def test_the_makers_are_as_they_were(self):
        for words in [["lr", "l", "rl", "l"], ["l", "r"]]:
            for asked in [share, stuck, lambda makers: count_of_rows(makers, 9),
                          lambda makers: count_of_tables(makers, 9)]:
                makers = plain_tables(words)
                first = asked(makers)
                self.assertEqual(makers, plain_tables(words))
                self.assertEqual(asked(makers), first)


if __name__ == "__main__":
    unittest.main()
