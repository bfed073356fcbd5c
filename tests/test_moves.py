"""Points 27 and 28: moves, others within wide makers; and points 2 and 3, of what quadwords/moves.py takes and tells."""

import copy
import itertools
import random
import unittest

from quadwords.bases import basis, common, same_wide
from quadwords.errors import NoMakers
from quadwords.graphs import closes, graph_of, index, rank
from quadwords.moves import all_within, moves
from quadwords.signed import row_made, signed_row
from quadwords.tables import back
from quadwords.wide import wide_table, wide_word, wide_word_within
from wide_makers import ONE, by_joining, refused_wide, some_words, tables_of

FULL = [["u", "v"], ["uu", "v", "uvU"], ["uuu", "uvU", "v", "uuvUU"], ["uu", "vv", "uv"], ["u", "vv", "vuV"],
        ["uu", "vuV", "vv", "uvvU", "uvuVU"], ["uu", "v", "uvU", "uuuu", "v"], ["uV", "v"]]


def any_moves(chance, many):
    """Two lists in which each state stands once, and by which each state is come to."""
    while True:
        lists = [chance.sample(range(many), many) for each in range(2)]
        found = {0}
        for each in range(many):
            found |= {ends[state] for ends in lists for state in found}
        if len(found) == many:
            return lists


def loops_of(lists):
    """Words that make what closes where letters move as in the lists: each way with stems to and fro."""
    leads = [[lists[0][state], lists[1][state], lists[0].index(state),
              lists[1].index(state)] for state in range(len(lists[0]))]
    stems = {0: ""}
    waiting = [0]
    for state in waiting:
        for letter, end in zip("uvUV", leads[state]):
            if end not in stems:
                stems[end] = stems[state] + letter
                waiting.append(end)
    return [(stems[state], letter, stems[leads[state]["uv".index(letter)]]) for state in stems for letter in "uv"]


class Moves(unittest.TestCase):
    def test_written_ones(self):
        for words, told in [(["u", "v"], ([0], [0])), (["uu", "v", "uvU"], ([1, 0], [0, 1])),
                            (["uu", "vv", "uv"], ([1, 0], [1, 0])),
                            (["u", "vv", "vuV"], ([0, 1], [1, 0])),
                            (["uuu", "v", "uvU", "uuvUU"], ([1, 2, 0], [0, 1, 2]))]:
            self.assertEqual(moves(tables_of(words)), told)

    def test_none_just_where_some_none_is_told(self):
        for words in some_words(51, 300) + FULL + [[""], ["u"], ["uu", "v"], ["uu", "vv"]]:
            makers = tables_of(words)
            graph = graph_of(makers)
            told = moves(makers)
            if any(None in ends for ends in graph):
                self.assertIs(told, None)
                self.assertIs(index(makers), None)
            else:
                self.assertEqual(told, ([ends[0] for ends in graph], [ends[1] for ends in graph]))
                self.assert_moves(makers, told)

    def assert_moves(self, makers, told):
        self.assertIsInstance(told, tuple)
        self.assertEqual(len(told), 2)
        for ends in told:
            self.assertIsInstance(ends, list)
            self.assertTrue(all(type(end) is int for end in ends))
            self.assertEqual(sorted(ends), list(range(len(ends))))
            self.assertEqual(len(ends), index(makers))
        self.assertEqual(rank(makers), index(makers) + 1)

    def test_of_full_ones(self):
        for words in FULL:
            makers = tables_of(words)
            told = moves(makers)
            self.assert_moves(makers, told)
            graph = by_joining(words)
            self.assertEqual(told, ([ends[0] for ends in graph], [ends[1] for ends in graph]))
            # u and v lead so, and U and V lead back.
            for state in range(len(graph)):
                self.assertEqual((told[0][graph[state][2]], told[1][graph[state][3]]), (state, state))

    def test_any_moves(self):
        chance = random.Random(52)
        tried = 0
        for each in range(300):
            lists = any_moves(chance, chance.randint(1, 7))
            loops = [stem + letter + end[::-1].swapcase() for stem, letter, end in loops_of(lists)]
            words = [word for word in [wide_word(wide_table(loop)) for loop in loops] if word]
            if len(words) <= 8 and all(len(word) <= 10 for word in words):
                tried += 1
                told = moves(tables_of(words))
                self.assert_moves(tables_of(words), told)
                self.assertEqual(len(told[0]), len(lists[0]))
                # Numbered as they are first found, the states move as in the lists.
                numbers, waiting = {0: 0}, [0]
                for state in waiting:
                    for end in [lists[0][state], lists[1][state], lists[0].index(state), lists[1].index(state)]:
                        if end not in numbers:
                            numbers[end] = len(numbers)
                            waiting.append(end)
                for state in numbers:
                    self.assertEqual([ends[numbers[state]] for ends in told], [numbers[ends[state]] for ends in lists])
        self.assertGreater(tried, 200)

    def test_of_a_basis(self):
        for words in FULL:
            self.assertEqual(moves(basis(tables_of(words))), moves(tables_of(words)))


class AllWithin(unittest.TestCase):
    def test_written_ones(self):
        for words, others, answer in [(["u"], ["uu"], True), (["uu"], ["u"], False),
                                      (["u", "v"], ["uvUV", "", "vvv"], True),
                                      ([""], [""], True), ([""], ["u"], False), (["u"], [""], True),
                                      (["uv"], ["vu"], False),
                                      (["uu", "uuu"], ["U"], True), (["uu", "v"], ["uu", "uvU"], False)]:
            self.assertIs(all_within(tables_of(words), tables_of(others)), answer)

    def test_signed_rows_of_the_makers(self):
        chance = random.Random(53)
        for words in some_words(54, 200):
            makers = tables_of(words)
            made = []
            for each in range(30):
                row = [chance.choice([1, -1]) * chance.randint(1, len(words)) for place in range(chance.randint(0, 4))]
                table = row_made(makers, row)
                made += [table] if len(wide_word(table)) <= 10 else []
            others = (made + [ONE])[:8]
            self.assertIs(all_within(makers, others), True)
            self.assertIs(all_within(makers, others[::-1]), True)

    def test_with_one_otherwise(self):
        chance = random.Random(55)
        answers = []
        for words in some_words(56, 200):
            makers = tables_of(words)
            for word in ["u", "v", "uv", "uvU", "vuV", "uuvv"]:
                others = makers[:7]
                place = chance.randint(0, len(others))
                answer = signed_row(makers, wide_table(word)) is not None
                answers.append(answer)
                self.assertIs(all_within(makers, others[:place] + [wide_table(word)] + others[place:]), answer)
        self.assertGreater(answers.count(True), 50)
        self.assertGreater(answers.count(False), 50)

    def test_within_one_another_both_ways(self):
        asked = some_words(57, 40) + FULL + [["u", "v"], ["v", "uv"], ["U"], ["u", "uu"]]
        both = 0
        for one, other in itertools.product(asked, repeat=2):
            makers, others = tables_of(one), tables_of(other)
            answers = [all_within(makers, others), all_within(others, makers)]
            graphs = [by_joining(one) if any(one) else [(None,) * 4],
                      by_joining(other) if any(other) else [(None,) * 4]]
            self.assertIs(answers[0], all(closes(graphs[0], word) for word in other))
            self.assertIs(all(answers), same_wide(makers, others))
            both += all(answers) and one != other
        self.assertGreater(both, 10)

    def test_of_backs_and_of_a_basis(self):
        for words in some_words(58, 150):
            makers = tables_of(words)
            self.assertIs(all_within(makers, [back(maker) for maker in makers]), True)
            told = basis(makers)
            if 1 <= len(told) <= 8 and all(len(wide_word(table)) <= 10 for table in told):
                self.assertIs(all_within(makers, told) and all_within(told, makers), True)

    def test_of_common_makers(self):
        tried = 0
        asked = FULL + some_words(59, 40)
        for one, other in itertools.product(asked, repeat=2):
            told = common(tables_of(one), tables_of(other))
            if 1 <= len(told) <= 8 and all(wide_word_within(table, 10) is not None for table in told):
                tried += 1
                self.assertIs(all_within(tables_of(one), told) and all_within(tables_of(other), told), True)
                self.assertIs(all_within(told, tables_of(one)), all_within(tables_of(other), tables_of(one)))
        self.assertGreater(tried, 50)

    def test_the_index_is_a_multiple(self):
        tried = 0
        for one, other in itertools.product(FULL, repeat=2):
            if all_within(tables_of(one), tables_of(other)):
                tried += 1
                self.assertEqual(index(tables_of(other)) % index(tables_of(one)), 0)
        self.assertGreater(tried, 10)


def askings():
    """Each question of this module, as one of one list of wide makers."""
    good = tables_of(["uv", "u"])
    return [moves, lambda makers: all_within(makers, good), lambda makers: all_within(good, makers),
            lambda makers: all_within(tables_of(["uu"]), makers), lambda makers: all_within(makers, makers)]


class Refusals(unittest.TestCase):
    def test_no_makers(self):
        for makers in refused_wide():
            for asked in askings():
                handed = copy.deepcopy(makers)
                with self.assertRaises(NoMakers):
                    asked(handed)
                self.assertEqual(handed, makers)

    def test_of_both_lists(self):
        for one, other in itertools.product([[], [(1, 1, 0, 1)], [ONE] * 9, [(1, 22, 0, 1)]], repeat=2):
            with self.assertRaises(NoMakers):
                all_within(one, other)

    def test_a_bad_one_behind_one_that_is_not_within(self):
        for bad in [(1, 1, 0, 1), (1, 22, 0, 1)]:
            with self.assertRaises(NoMakers):
                all_within(tables_of(["uu"]), [wide_table("u"), bad])

    def test_as_many_and_as_long_as_may_be(self):
        self.assertIs(moves(tables_of(["u" * 10] * 8)), None)
        self.assertIs(all_within(tables_of(["u" * 5] * 8), tables_of(["u" * 10] * 8)), True)


class Lists(unittest.TestCase):
    def test_what_is_handed_in_is_as_it_was(self):
        for words in [["uv", "u", "", "u"], ["uu", "v", "uvU"]]:
            for asked in askings():
                makers = tables_of(words)
                asked(makers)
                self.assertEqual(makers, tables_of(words))

    def test_told_lists_are_the_askers_own(self):
        for words in FULL:
            makers = tables_of(words)
            first, again = moves(makers), moves(makers)
            kept = copy.deepcopy(again)
            self.assertEqual(len({id(ends) for ends in first + again}), 4)
            first[0].append(7)
            first[1].clear()
            self.assertEqual(again, kept)
            self.assertEqual(moves(makers), kept)
            makers.clear()
            self.assertEqual(again, kept)


if __name__ == "__main__":
    unittest.main()
