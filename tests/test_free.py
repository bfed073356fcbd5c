"""Points 8 to 10: free makers, papers, needed makers; and points 2 and 3, of what quadwords/free.py takes and tells."""

import copy
import itertools
import random
import unittest

from quadwords.errors import NoMakers
from quadwords.free import leftovers, let_by, needed, same, twins
from quadwords.plain import table_of
from quadwords.rows import least_row
from quadwords.tables import product_of
from plain_makers import any_text, texts_made

ONE = (1, 0, 0, 1)
GREAT = 10 ** 200 - 1

# Makers that are free, though of many one's word begins with another's.
FREE = [["l"], ["lr"], ["l", "r"], ["lr", "rl"], ["l", "lr"], ["l", "lrr", "lr"], ["ll", "lr", "rl", "rr"],
        ["r", "rl", "rll", "rlll"], ["lr", "lrr"], ["l", "rl", "rr"], ["ll", "lr", "llr"], ["lrl", "lrr", "l"],
        ["lr" * 20], ["l" * 40, "r" * 40], ["l" * 39 + "r", "l" * 38 + "rr"], ["lllr", "llr", "lll"]]
# Makers that aren't, with the length of the shortest word that two rows make.
TIED = [(["l", "l"], 1), (["l", "ll"], 2), (["ll", "lll"], 5), (["l", "r", "lr"], 2), (["lr", "l", "rl"], 3),
        (["r", "l", "rl"], 2), (["lrl", "lr", "rl", "l"], 3), (["rr", "l", "lr", "r"], 2), (["lr", "lrlr"], 4),
        (["lrr"] * 8, 3), (["l" * 40, "l" * 39], 79), (["lr" * 20, "lr" * 19], 78), (["l", "lrl", "rlrl", "rll"], 4),
        (["l" * 40] * 2, 40), (["l", "lr", "rr", "rrr"], 4), (["ll", "llrr", "rrl", "l"], 2)]


def tables_of(words):
    return [table_of(word) for word in words]


def short_texts(most):
    return ["".join(letters) for many in range(most + 1) for letters in itertools.product("lr", repeat=many)]


def some_words(seed, many, most):
    """Lists of words, some of them put together of others."""
    chance = random.Random(seed)
    told = []
    for each in range(many):
        words = [any_text(chance, 1, most) for number in range(chance.randint(1, 5))]
        if each % 4 == 0:
            words.append((chance.choice(words) + chance.choice(words))[:40])
        chance.shuffle(words)
        told.append(words)
    return told


def great_words(seed, many):
    """Lists of eight words of up to forty letters, much like one another."""
    chance = random.Random(seed)
    told = []
    for each in range(many):
        middles = [(chance.randint(0, 30), chance.randint(0, 9)) for number in range(6)]
        words = ["l" * ahead + "r" + "l" * behind for ahead, behind in middles]
        told.append(words + ["l" * chance.randint(20, 40), any_text(chance, 40, 40)])
    return told


def pairs_gone(words):
    """Letter by letter: two makers of unlike numbers gone side by side, and behind each whichever makers follow.

    Told are the length at which both first end at once, or None; and what was left of one where the other ended.
    """
    many = range(len(words))
    level = {((i, 0), (j, 0)) for i in many for j in many if i != j}
    seen, left, length, ended = set(), set(), 0, None
    while level:
        length += 1
        gone = set()
        for (i, a), (j, b) in level:
            if words[i][a] != words[j][b]:
                continue
            ends = [a + 1 == len(words[i]), b + 1 == len(words[j])]
            if all(ends):
                left.add("")
                ended = ended or length
                continue
            if any(ends):
                left.add(words[j][b + 1:] if ends[0] else words[i][a + 1:])
            ones = [(k, 0) for k in many] if ends[0] else [(i, a + 1)]
            others = [(k, 0) for k in many] if ends[1] else [(j, b + 1)]
            gone |= set(itertools.product(ones, others))
        level = gone - seen
        seen |= level
    return ended, sorted(left)


def lets_by(words, paper):
    """Point 9's sentence of papers, word by word."""
    if "" in paper or any(set(text) - set("lr") for text in paper):
        return False
    numbered = list(enumerate(words))
    pairs = [(one, other) for i, one in numbered for j, other in numbered if i != j]
    pairs += [pair for text in paper for word in words for pair in [(text, word), (word, text)]]
    return all(longer[len(shorter):] in paper for longer, shorter in pairs if longer[:len(shorter)] == shorter)


class Twins(unittest.TestCase):
    def assert_twins(self, words, length):
        makers = tables_of(words)
        told = twins(makers)
        self.assertIsInstance(told, tuple)
        self.assertEqual(len(told), 2)
        one, other = told
        self.assertIsInstance(one, list)
        self.assertIsInstance(other, list)
        self.assertNotEqual(one, other)
        self.assertLess(one[0], other[0])
        self.assertTrue(all(0 <= number < len(makers) for number in one + other))
        self.assertEqual(product_of([makers[k] for k in one]), product_of([makers[k] for k in other]))
        self.assertEqual(len("".join(words[k] for k in one)), length)

    def test_free_makers_have_none(self):
        for words in FREE:
            self.assertIs(twins(tables_of(words)), None)

    def test_others_have_some(self):
        for words, length in TIED:
            self.assert_twins(words, length)
            self.assert_twins(words[::-1], length)

    def test_makers_alike(self):
        self.assertEqual(twins(tables_of(["l", "l"])), ([0], [1]))
        self.assertEqual(twins(tables_of(["r", "l", "r"])), ([0], [2]))
        for many in range(2, 9):
            self.assert_twins(["lrrl"] * many, 4)

    def test_a_maker_made_of_others(self):
        self.assertEqual(twins(tables_of(["l", "r", "lr"])), ([0, 1], [2]))
        self.assertEqual(twins(tables_of(["lr", "r", "l"])), ([0], [2, 1]))
        self.assertEqual(twins(tables_of(["ll", "l"])), ([0], [1, 1]))
        self.assertEqual(twins(tables_of(["l" * 10, "l" * 40])), ([0] * 4, [1]))

    def test_beginnings_of_one_another(self):
        self.assertIs(twins(tables_of(["l" + "r" * many for many in range(8)])), None)
        self.assert_twins(["l" + "r" * many for many in range(7)] + ["rrrl"], 5)
        self.assertEqual(twins(tables_of(["lr", "l", "rl"])), ([0, 1], [1, 2]))

    def test_powers_of_one_word(self):
        for word in ["l", "lr", "rrl"]:
            for one, other in [(1, 2), (2, 3), (3, 2), (4, 6), (1, 5), (5, 7), (2, 9), (8, 4)]:
                both = next(many for many in range(1, 99) if many % one == 0 and many % other == 0)
                self.assert_twins([word * one, word * other], min(both, one + other) * len(word))

    def test_words_of_one_length(self):
        for length in [1, 2, 3]:
            words = ["".join(letters) for letters in itertools.product("lr", repeat=length)]
            self.assertIs(twins(tables_of(words)), None)
        self.assert_twins(["lrl", "rrr", "lll", "rrr"], 3)
        self.assertIs(twins(tables_of(["l" * 20 + "r" * 20, "r" * 40, "lr" * 20, "rl" * 20])), None)

    def test_none_shorter_over_all_short_texts(self):
        for words in some_words(8, 200, 4):
            told = texts_made(words, 9)
            tied = [len(text) for text in short_texts(9) if told.get(text, 0) > 1]
            found = twins(tables_of(words))
            if tied:
                self.assert_twins(words, tied[0])
            elif found is not None:
                self.assertGreater(len("".join(words[k] for k in found[0])), 9)

    def test_none_just_where_makers_are_free(self):
        asked = some_words(18, 300, 5) + some_words(28, 20, 40) + great_words(38, 20)
        lengths = [pairs_gone(words)[0] for words in asked]
        self.assertGreater(lengths.count(None), 20)
        self.assertLess(lengths.count(None), 320)
        for words, length in zip(asked, lengths):
            if length is None:
                self.assertIs(twins(tables_of(words)), None)
            else:
                self.assert_twins(words, length)

    def test_a_shortest_word_of_more_than_four_hundred_letters(self):
        middles = [(31, 7), (17, 20), (0, 27), (0, 20), (27, 12), (3, 32), (38, 1)]
        words = ["l" * 30] + ["l" * ahead + "r" + "l" * behind for ahead, behind in middles]
        self.assertEqual(pairs_gone(words)[0], 402)
        self.assert_twins(words, 402)


class Leftovers(unittest.TestCase):
    def test_written_ones(self):
        for words, left in [
                (["l"], []), (["l", "r"], []), (["l", "lr"], ["r"]), (["lr", "l", "rl"], ["", "l", "r"]), (["l", "l"], [""]),
                (["l", "ll"], ["", "l"]), (["ll", "lll"], ["", "l", "ll"]), (["l", "lrr", "lr"], ["r", "rr"]),
                (["lr", "lrr"], ["r"]), (["lr" * 20] * 8, [""]), (["r", "rl", "rll", "rlll"], ["l", "ll", "lll"]),
                (["l", "lrl", "lr"], ["", "l", "r", "rl"]), (["ll", "lr", "llr"], ["r"]),
                (["lrl", "lrr", "l"], ["rl", "rr"]), (["r", "l", "lr"], ["", "r"])]:
            self.assertEqual(leftovers(tables_of(words)), left)

    def test_nothing_is_left_of_the_empty_text(self):
        # Else each maker's word would be left behind it.
        self.assertEqual(leftovers(tables_of(["lr", "lr", "r"])), [""])
        self.assertEqual(leftovers(tables_of(["lr", "rl", "rl", "rrr"])), [""])

    def test_as_found_letter_by_letter(self):
        for words in FREE + [words for words, length in TIED] + some_words(9, 300, 5) + great_words(19, 20):
            told = leftovers(tables_of(words))
            self.assertEqual(told, pairs_gone(words)[1])
            self.assertEqual(told, sorted(set(told)))

    def test_the_empty_text_just_where_two_rows_make_the_same(self):
        for words in some_words(29, 200, 6):
            makers = tables_of(words)
            self.assertEqual("" in leftovers(makers), twins(makers) is not None)


class Papers(unittest.TestCase):
    def asked(self):
        return FREE + some_words(39, 200, 5) + great_words(49, 10)

    def test_the_leftovers_themselves(self):
        for words in self.asked():
            makers = tables_of(words)
            self.assertIs(let_by(makers, leftovers(makers)), pairs_gone(words)[0] is None)
        for words, length in TIED:
            self.assertIs(let_by(tables_of(words), leftovers(tables_of(words))), False)

    def test_in_another_order_and_told_twice(self):
        chance = random.Random(59)
        for words in self.asked():
            makers = tables_of(words)
            paper = leftovers(makers)
            free = "" not in paper
            self.assertIs(let_by(makers, paper[::-1]), free)
            self.assertIs(let_by(makers, paper + paper), free)
            twice = paper + paper[:1]
            chance.shuffle(twice)
            self.assertIs(let_by(makers, twice), free)

    def test_with_one_left_out(self):
        for words in self.asked():
            makers = tables_of(words)
            paper = leftovers(makers)
            for place in range(len(paper)):
                self.assertIs(let_by(makers, paper[:place] + paper[place + 1:]), False)

    def test_where_makers_are_not_free_no_paper_is_let_by(self):
        for words, length in TIED:
            makers = tables_of(words)
            ends = sorted({word[place:] for word in words for place in range(len(word))})
            for paper in [[], ends, ends + [""], [text for text in leftovers(makers) if text], short_texts(8)[1:]]:
                self.assertIs(let_by(makers, paper), False)

    def test_other_texts_put_to_them(self):
        makers = tables_of(["lr", "lrr"])
        self.assertEqual(leftovers(makers), ["r"])
        for text in ["r", "rl", "rr", "rrrr", "ll", "lll", "rlrlrlr", "r" * 401, "r" * 4000, "ll" * 2000]:
            self.assertIs(let_by(makers, ["r", text]), True)
            self.assertIs(let_by(makers, [text, "r"]), True)
        for text in ["l", "lr", "lrr", "lrl", "lrlr", "lrrl", "lr" * 2000, "lrr" * 1000 + "l"]:
            self.assertIs(let_by(makers, ["r", text]), False)
        self.assertIs(let_by(makers, ["r", "lrll", "ll"]), True)
        self.assertIs(let_by(makers, ["r", "lrll"]), False)
        self.assertIs(let_by(makers, ["r", "lrrll", "ll", "rll"]), True)
        self.assertIs(let_by(makers, ["r", "lrrll", "ll"]), False)
        self.assertIs(let_by(makers, ["r", "lrrll", "rll"]), False)
        self.assertIs(let_by(makers, ["r", "l", "rr"]), True)

    def test_with_the_empty_text(self):
        for words in FREE + [words for words, length in TIED]:
            makers = tables_of(words)
            paper = [text for text in leftovers(makers) if text]
            self.assertIs(let_by(makers, paper + [""]), False)
            self.assertIs(let_by(makers, [""] + paper), False)
            self.assertIs(let_by(makers, [""]), False)

    def test_with_a_text_that_has_another_sign(self):
        makers = tables_of(["lr", "lrr"])
        for sign in [chr(code) for code in range(32, 127) if chr(code) not in "lr%"] + ["\n"]:
            for text in [sign, "r" + sign, sign + "r", "rr" + sign + "rr", sign * 3]:
                self.assertIs(let_by(makers, ["r", text]), False)
                self.assertIs(let_by(makers, [text, "r"]), False)
                self.assertIs(let_by(tables_of(["l"]), [text]), False)
        self.assertIs(let_by(makers, ["r", "r" * 2000 + "x" + "r" * 1999]), False)

    def test_a_paper_of_a_thousand_texts(self):
        makers = tables_of(["lr", "lrr"])
        paper = ["r" * many for many in range(1, 1001)]
        self.assertIs(let_by(makers, paper), True)
        self.assertIs(let_by(makers, paper[::-1]), True)
        self.assertIs(let_by(makers, paper[1:]), False)
        self.assertIs(let_by(makers, paper[:-1] + ["l"]), True)
        self.assertIs(let_by(makers, paper[:-1] + ["lrl"]), False)
        self.assertIs(let_by(makers, paper[:-1] + [""]), False)
        self.assertIs(let_by(makers, ["r"] * 1000), True)
        self.assertIs(let_by(makers, ["r" * 4000] * 999 + ["r"]), True)
        self.assertIs(let_by(tables_of(["l"]), ["r" * many for many in range(1, 1001)]), True)
        self.assertIs(let_by(tables_of(["l"]), ["r" * 999 + "l"] * 999 + ["lrl"]), False)

    def test_no_text_at_all(self):
        for words in FREE + [words for words, length in TIED]:
            pairs = itertools.permutations(words, 2)
            self.assertIs(let_by(tables_of(words), []), not any(one.startswith(other) for one, other in pairs))

    def test_any_papers(self):
        chance = random.Random(69)
        answers = []
        for words in some_words(79, 500, 4):
            makers = tables_of(words)
            paper = [text for text in leftovers(makers) if text or chance.random() < 0.5]
            paper += [any_text(chance, 0 if chance.random() < 0.1 else 1, 4) for many in range(chance.randint(0, 2))]
            chance.shuffle(paper)
            answers.append(let_by(makers, paper))
            self.assertIs(answers[-1], lets_by(words, paper))
        self.assertGreater(answers.count(True), 50)
        self.assertGreater(answers.count(False), 50)


class Needed(unittest.TestCase):
    def test_made_of_others(self):
        for words, numbers in [
                (["l"], [0]), (["l", "ll"], [0]), (["ll", "l"], [1]), (["l", "r", "lr"], [0, 1]), (["lr", "r", "l"], [1, 2]),
                (["ll", "lll", "lllll"], [0, 1]), (["llll", "lll", "ll"], [1, 2]), (["lrl", "lr", "l", "rl"], [1, 2, 3]),
                (["lrlr", "lr", "lrlrlr"], [1]), (["l" * 40, "l" * 20, "r" * 40, "r" * 8], [1, 3]),
                (["lrrl", "lr", "rl", "l"], [1, 2, 3])]:
            self.assertEqual(needed(tables_of(words)), numbers)

    def test_alike(self):
        self.assertEqual(needed(tables_of(["l", "l"])), [0])
        self.assertEqual(needed(tables_of(["lr"] * 8)), [0])
        self.assertEqual(needed(tables_of(["r", "l", "r", "l", "lr"])), [0, 1])
        self.assertEqual(needed(tables_of(["ll", "l", "ll", "l"])), [1])
        self.assertEqual(needed(tables_of(["lr", "lr", "l", "l", "r"])), [2, 4])

    def test_none_is_needed_less(self):
        for words in FREE + [["lr", "l", "rl"], ["ll", "lll"], ["l" * 39, "l" * 40], ["lr" * 19, "lr" * 20]]:
            self.assertEqual(needed(tables_of(words)), list(range(len(words))))

    def test_by_rows_of_unlike_makers(self):
        for words in some_words(10, 300, 5) + great_words(20, 10):
            numbers = []
            for number, word in enumerate(words):
                others = [other for other in words if other != word]
                made = others != [] and least_row(tables_of(others), table_of(word)) is not None
                if not made and word not in words[:number]:
                    numbers.append(number)
            self.assertEqual(needed(tables_of(words)), numbers)

    def test_they_make_all_and_none_can_be_left_out(self):
        for words in some_words(30, 150, 4):
            numbers = needed(tables_of(words))
            kept = [words[number] for number in numbers]
            self.assertEqual(set(texts_made(kept, 9)), set(texts_made(words, 9)))
            for left_out in kept:
                self.assertNotIn(left_out, texts_made([word for word in kept if word != left_out], 9))


class Same(unittest.TestCase):
    def assert_same(self, words, others, answer):
        self.assertIs(same(tables_of(words), tables_of(others)), answer)
        self.assertIs(same(tables_of(others), tables_of(words)), answer)

    def test_written_ones(self):
        for words, others, answer in [
                (["l"], ["l"], True), (["l"], ["r"], False), (["l", "r"], ["r", "l"], True), (["l"], ["ll"], False),
                (["l"], ["l", "ll"], True), (["l", "r"], ["l", "r", "lr", "rl"], True), (["ll", "lll"], ["l"], False),
                (["ll", "lll"], ["lll", "ll", "lllll"], True), (["lr", "l"], ["lr", "l", "rl"], False),
                (["lr"] * 8, ["lr"], True), (["l", "r"], ["l", "lr"], False),
                (["l" * 40], ["l" * 40, "l" * 39], False)]:
            self.assert_same(words, others, answer)

    def test_with_the_needed_ones_alone(self):
        for words in some_words(40, 200, 5) + great_words(50, 10):
            kept = [words[number] for number in needed(tables_of(words))]
            self.assert_same(words, kept, True)
            self.assert_same(words[::-1], kept, True)

    def test_with_one_left_out_or_exchanged(self):
        chance = random.Random(60)
        for words in some_words(70, 200, 5):
            kept = [words[number] for number in needed(tables_of(words))]
            for place, word in enumerate(kept):
                without = kept[:place] + kept[place + 1:]
                if without:
                    self.assert_same(words, without, False)
                other = any_text(chance, 1, 5)
                alike = set(texts_made(without + [other], 10)) == set(texts_made(kept, 10))
                self.assert_same(words, without + [other], alike)

    def test_by_all_short_texts(self):
        asked = some_words(80, 30, 3)
        for words in asked:
            for others in asked:
                alike = set(texts_made(words, 6)) == set(texts_made(others, 6))
                self.assertIs(same(tables_of(words), tables_of(others)), alike)


def askings():
    """Each question of this module that takes makers, as one of makers alone."""
    good = tables_of(["l", "lr", "rr"])
    return [twins, leftovers, needed, lambda makers: let_by(makers, ["r", "l"]), lambda makers: let_by(makers, []),
            lambda makers: same(makers, good), lambda makers: same(good, makers), lambda makers: same(makers, makers)]


class Refusals(unittest.TestCase):
    def assert_refused(self, makers):
        for asked in askings():
            handed = copy.deepcopy(makers)
            with self.assertRaises(NoMakers):
                asked(handed)
            self.assertEqual(handed, makers)

    def test_how_many_makers(self):
        for many in [0, 9, 10, 1000]:
            self.assert_refused([table_of("lr")] * many)
        for many in range(1, 9):
            self.assertEqual(needed([table_of("lr")] * many), [0])

    def test_a_bad_maker_at_any_place(self):
        bad_ones = [ONE, (0, 0, 0, 0), (1, -1, 0, 1), (1, 0, -1, 1), (-1, 0, 0, -1), (0, 1, -1, 0), (2, 0, 0, 1),
                    (1, 1, 1, 1), (1, 41, 0, 1), (1, 0, 41, 1), table_of(("lrr" * 14)[:41]), table_of("l" * 400),
                    (1, GREAT, 0, 1), (1, 0, GREAT, 1), (GREAT, 0, 0, GREAT)]
        for bad in bad_ones:
            for many in [1, 3, 8]:
                for place in range(many):
                    makers = [table_of("lr")] * many
                    makers[place] = bad
                    self.assert_refused(makers)

    def test_things_that_are_no_makers(self):
        for thing in [None, True, 1, "l", "", (), (table_of("l"),), table_of("l"), [None], ["l"], [[1, 0, 1, 1]],
                      [table_of("l"), (1, 0, 1)], [table_of("l"), (True, 0, 1, 1)], [[table_of("l")]]]:
            self.assert_refused(thing)

    def test_several_faults_at_once(self):
        self.assert_refused([ONE, (1, -1, 0, 1), (1, GREAT, 0, 1)])
        self.assert_refused([ONE] * 9)
        for paper in [["x"], [""], ["%"], []]:
            with self.assertRaises(NoMakers):
                let_by([], paper)
        for first, second in itertools.product([[], [ONE], [table_of("l")] * 9], repeat=2):
            with self.assertRaises(NoMakers):
                same(first, second)

    def test_the_longest_makers_are_taken(self):
        words = ["l" * 40, "r" * 40, ("lrr" * 14)[:40]]
        self.assertIs(twins(tables_of(words)), None)
        self.assertEqual(leftovers(tables_of(words)), [])
        self.assertEqual(needed(tables_of(words)), [0, 1, 2])


class Lists(unittest.TestCase):
    def test_what_is_handed_in_is_as_it_was(self):
        for words in [["lr", "l", "rl"], ["l", "lr"], ["ll", "l", "ll"]]:
            for asked in askings():
                makers = tables_of(words)
                asked(makers)
                self.assertEqual(makers, tables_of(words))
        paper = ["rr", "r", "ll", "r", "l"]
        let_by(tables_of(["lr", "lrr"]), paper)
        self.assertEqual(paper, ["rr", "r", "ll", "r", "l"])
        with self.assertRaises(NoMakers):
            let_by([], paper)
        self.assertEqual(paper, ["rr", "r", "ll", "r", "l"])

    def test_told_lists_are_the_askers_own(self):
        makers = tables_of(["lr", "l", "rl"])
        for asked in [leftovers, needed]:
            first = asked(makers)
            kept = list(first)
            again = asked(makers)
            first.append("other")
            first[0] = "other"
            self.assertEqual(again, kept)
            self.assertEqual(asked(makers), kept)
            self.assertEqual(makers, tables_of(["lr", "l", "rl"]))

    def test_told_twins_are_the_askers_own(self):
        for words in [["lr", "l", "rl"], ["l", "l"], ["ll", "lll"]]:
            makers = tables_of(words)
            first = twins(makers)
            kept = copy.deepcopy(first)
            again = twins(makers)
            self.assertIsNot(first[0], first[1])
            self.assertEqual(len({id(row) for row in first + again}), 4)
            first[0].append(7)
            first[1].clear()
            self.assertEqual(again, kept)
            self.assertEqual(twins(makers), kept)

    def test_makers_changed_later_change_nothing_told(self):
        makers = tables_of(["lr", "l", "rl"])
        told = [twins(makers), leftovers(makers), needed(makers)]
        kept = copy.deepcopy(told)
        makers.clear()
        self.assertEqual(told, kept)


if __name__ == "__main__":
    unittest.main()
