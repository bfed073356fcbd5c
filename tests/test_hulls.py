"""Point 24: the hull of makers; and point 2, of what quadwords/hulls.py takes and tells."""

import copy
import itertools
import random
import unittest

from quadwords.errors import NoMakers
from quadwords.free import needed, same, twins
from quadwords.hulls import hull
from quadwords.plain import table_of, word_of
from quadwords.rows import many_rows
from plain_makers import any_text, plain_tables, refused_plain, some_plain, texts_of

FREE_WORDS = [["l"], ["l", "r"], ["lr", "rl"], ["l", "lr"], ["l", "rl", "rr"], ["lrl", "lrr", "l"], ["ll", "lr", "llr"],
              ["rll", "l", "rr"], ["lr", "lrr", "ll"]]


def hull_words(words):
    return [word_of(table) for table in hull(plain_tables(words))]


def is_made(words, text):
    """Whether words, one behind another, make a text."""
    ends = {0}
    for place in range(len(text)):
        if place in ends:
            ends |= {place + len(word) for word in words if text.startswith(word, place)}
    return len(text) in ends


def is_free(words):
    """Whether no text is made by two rows, told by what is left of one behind another."""
    lefts = {one[len(other):] for one, other in itertools.permutations(words, 2) if one.startswith(other)}
    seen = set()
    while lefts - seen:
        left = sorted(lefts - seen)[0]
        seen.add(left)
        if left == "":
            return False
        lefts |= {left[len(word):] for word in words if left.startswith(word)}
        lefts |= {word[len(left):] for word in words if word.startswith(left)}
    return True


def stable_words(words):
    """The hull by closing: where a, b, a + w and w + b are made, w is put to the words, until there is no such w."""
    longest = max(len(word) for word in words)
    kept = sorted(set(words))
    while True:
        made = {text for length in range(4 * longest + 1) for text in texts_of(length) if is_made(kept, text)}
        short = [text for text in made if 0 < len(text) <= longest]
        lefts = {other[len(one):] for one, other in itertools.permutations(short, 2) if other.startswith(one)}
        more = [left for left in sorted(lefts - made)
                if any(text.startswith(left) and text[len(left):] in made for text in made)]
        if not more:
            return [word for word in kept if not is_made([other for other in kept if other != word], word)]
        kept = sorted(set(kept + more))


class Hull(unittest.TestCase):
    def test_written_ones(self):
        for words, told in [(["l"], ["l"]), (["l", "l"], ["l"]), (["lll", "ll"], ["l"]),
                            (["lr", "l", "rl"], ["l", "r"]),
                            (["r", "l"], ["l", "r"]), (["lrlr", "lrlrlr"], ["lr"]), (["rl", "lr"], ["lr", "rl"]),
                            (["l", "lr"], ["l", "lr"]), (["lr", "lrl", "rlr"], ["l", "r"]),
                            (["lrr", "lr", "rrl", "l"], ["l", "lr", "rr"]), (["ll", "llrr", "rrl", "l"], ["l", "rr"]),
                            (["llrr", "ll", "rrll"], ["ll", "rr"]), (["l" * 40, "l" * 24], ["l" * 8])]:
            self.assertEqual(hull_words(words), told, words)

    def test_its_words_are_rising_and_free_and_make_each_maker(self):
        for words in some_plain(1, 300, 5) + some_plain(2, 100, 40):
            told = hull(plain_tables(words))
            self.assertIsInstance(told, list)
            told_words = [word_of(table) for table in told]
            self.assertEqual(told_words, sorted(set(told_words)))
            self.assertNotIn("", told_words)
            self.assertTrue(is_free(told_words))
            self.assertIsNone(twins(told))
            self.assertTrue(all(is_made(told_words, word) for word in words))
            self.assertTrue(all(many_rows(told, maker) == 1 for maker in plain_tables(words)))

    def test_of_free_makers_the_needed_ones(self):
        tried = 0
        for words in some_plain(3, 300, 6) + FREE_WORDS:
            makers = plain_tables(words)
            kept = [makers[number] for number in needed(makers)]
            if twins(kept) is None:
                tried += 1
                self.assertEqual(hull(makers), sorted(kept, key=word_of))
                self.assertTrue(same(hull(makers), makers))
        self.assertGreater(tried, 50)

    def test_never_more_than_the_needed_ones_and_fewer_where_these_are_not_free(self):
        tried = 0
        for words in some_plain(4, 400, 4):
            makers = plain_tables(words)
            kept = [makers[number] for number in needed(makers)]
            self.assertLessEqual(len(hull(makers)), len(kept))
            if twins(kept) is not None:
                tried += 1
                self.assertLess(len(hull(makers)), len(kept))
        self.assertGreater(tried, 50)

    def test_whoever_is_free_and_makes_the_makers_makes_the_hull(self):
        tried = 0
        for words in some_plain(5, 60, 4) + [["lr", "l", "rl"], ["ll", "llrr", "rrl", "l"], ["llrr", "ll", "rrll"]]:
            told = hull_words(words)
            parts = sorted({word[start:end] for word in words for end in range(len(word) + 1) for start in range(end)})
            for many in range(1, 4):
                for others in itertools.combinations(parts[:14], many):
                    if all(is_made(others, word) for word in words) and is_free(others):
                        tried += 1
                        self.assertTrue(all(is_made(others, word) for word in told), (words, others))
        self.assertGreater(tried, 100)

    def test_as_found_by_closing(self):
        for words in some_plain(6, 120, 3) + [["lrl", "lr", "rl"], ["lrr", "rlr", "l", "lrl"]]:
            self.assertEqual(hull_words(words), sorted(stable_words(words)), words)

    def test_of_makers_alike(self):
        for words in [["l"], ["lr"], ["lr", "rl"], ["lr", "l", "rl"]]:
            told = hull(plain_tables(words))
            self.assertEqual(hull(plain_tables((words * 8)[:8])), told)
        self.assertEqual(hull_words(["lr" * 20] * 8), ["lr" * 20])

    def test_of_powers_of_one_word(self):
        for word, powers, both in [("l", [6, 10], 2), ("lr", [4, 6, 9], 1), ("lrr", [2, 4, 8], 2),
                                   ("r", [40, 39, 38], 1),
                                   ("llr", [9, 12], 3), ("lrlrr", [8, 6], 2), ("l", [35, 21, 15], 1),
                                   ("rl", [20, 10, 15], 5)]:
            self.assertEqual(hull_words([word * power for power in powers]), [word * both])
            self.assertEqual(hull_words([word * power for power in powers[::-1]] * 2), [word * both])

    def test_of_makers_put_together_of_few_free_words(self):
        chance = random.Random(8)
        alike = 0
        for each in range(300):
            words = chance.choice(FREE_WORDS)
            makers = ["".join(chance.choice(words) for place in range(chance.randint(1, 5))) for number in range(8)]
            told = hull_words(makers)
            # The free words make all makers, so they make the hull, and are it where the makers are many enough.
            self.assertTrue(all(is_made(words, word) for word in told))
            self.assertLessEqual(len(told), max(len(words), 8))
            alike += told == sorted(words)
        self.assertGreater(alike, 100)

    def test_where_the_free_words_are_the_hull(self):
        for words in FREE_WORDS:
            for pairs in itertools.product(words, repeat=2):
                makers = [word for word in words if word not in pairs] + ["".join(pairs), pairs[0], pairs[1]]
                self.assertEqual(hull_words(makers), sorted(words))
            for one, other in itertools.permutations(words, 2):
                # No maker is the other word, but one + other, one and one, other + one make the same.
                makers = [word for word in words if word != other] + [one + other, other + one]
                self.assertEqual(hull_words(makers), sorted(words))

    def test_the_hull_of_the_hull_is_itself(self):
        for words in some_plain(9, 200, 6) + some_plain(10, 50, 40):
            told = hull(plain_tables(words))
            self.assertEqual(hull(told), told)
            self.assertEqual(hull(told[::-1]), told)

    def test_in_another_order_and_with_what_they_make(self):
        chance = random.Random(11)
        for words in some_plain(12, 200, 6):
            told = hull_words(words)
            self.assertEqual(hull_words(chance.sample(words, len(words))), told)
            both = chance.choice(words) + chance.choice(words)
            if len(words) < 8:
                self.assertEqual(hull_words(words + [both]), told)

    def test_makers_as_long_as_may_be(self):
        chance = random.Random(13)
        for each in range(60):
            words = [any_text(chance, 1, 9) for number in range(chance.randint(1, 3))]
            makers = []
            while len(makers) < 8:
                text = "".join(chance.choice(words) for place in range(chance.randint(1, 12)))
                makers += [text] if len(text) <= 40 else []
            told = hull_words(makers)
            self.assertTrue(is_free(told))
            self.assertTrue(all(is_made(told, maker) for maker in makers))
            # The words that the makers were put together of make each of the hull's, where they are free.
            if is_free(sorted(set(words))):
                self.assertTrue(all(is_made(words, word) for word in told))
        self.assertEqual(hull_words(["l" * 40, "l" * 39 + "r", "r" * 40]), ["l" * 40, "l" * 39 + "r", "r" * 40])
        self.assertEqual(hull_words(["l" * length for length in range(40, 32, -1)]), ["l"])


class Refusals(unittest.TestCase):
    def test_no_makers(self):
        for makers in refused_plain():
            handed = copy.deepcopy(makers)
            with self.assertRaises(NoMakers):
                hull(handed)
            self.assertEqual(handed, makers)


class Lists(unittest.TestCase):
    def test_the_makers_are_as_they_were(self):
        for words in [["lr", "l", "rl"], ["r", "l"], ["ll", "lll", "ll"]]:
            makers = plain_tables(words)
            first = hull(makers)
            kept = list(first)
            self.assertEqual(makers, plain_tables(words))
            again = hull(makers)
            self.assertIsNot(first, again)
            first.append("other")
            first[0] = "other"
            self.assertEqual((again, hull(makers)), (kept, kept))
            self.assertEqual(makers, plain_tables(words))
            makers.clear()
            self.assertEqual(again, kept)


if __name__ == "__main__":
    unittest.main()
