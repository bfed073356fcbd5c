"""Points 12 to 16: graphs of wide makers; and points 2 and 3, of what quadwords/graphs.py takes and tells."""

import copy
import itertools
import random
import unittest

from quadwords.errors import NoMakers, NoWide, TooLong
from quadwords.graphs import bars, closes, graph_of, index, rank
from quadwords.tables import back, product_of
from quadwords.wide import reduced, wide_table, wide_word
from wide_makers import (BAD_MAKERS, GREAT, NO_MAKERS, ONE, any_word, by_joining, some_words, tables_of, turned,
                         words_of_ten)

NO_WAYS = (None, None, None, None)
# By u: to the other of two states; by v: to the same one.
TWO_STATES = [(1, 0, 1, 0), (0, 1, 0, 1)]
EIGHT = ["uu", "v", "uvU", "uuvUU", "uvv", "VuV", "uvUV", "vvvvvvvvvv"]


def gone(graph, word):
    """The states on the way of a word from state 0 on, as far as it can be gone."""
    states = [0]
    for letter in word:
        end = graph[states[-1]]["uvUV".index(letter)]
        if end is None:
            break
        states.append(end)
    return states


def closes_by_hand(graph, word):
    states = gone(graph, word)
    return len(states) == len(word) + 1 and states[-1] == 0


class GraphOf(unittest.TestCase):
    def test_written_ones(self):
        n = None
        for words, graph in [
                ([""], [NO_WAYS]), (["", "", ""], [NO_WAYS]), (["u"], [(0, n, 0, n)]), (["V"], [(n, 0, n, 0)]),
                (["u", "v"], [(0, 0, 0, 0)]), (["uv"], [(1, n, n, 1), (n, 0, 0, n)]),
                (["Uv"], [(n, n, 1, 1), (0, 0, n, n)]), (["uu"], [(1, n, 1, n), (0, n, 0, n)]),
                (["vvv"], [(n, 1, n, 2), (n, 2, n, 0), (n, 0, n, 1)]), (["uu", "uuu"], [(0, n, 0, n)]),
                (["uu", "v", "uvU"], TWO_STATES), (["uvU"], [(1, n, n, n), (n, 1, 0, 1)]),
                (["Uvu"], [(n, n, 1, n), (0, 1, n, 1)]), (["uuuu", "uuuuuu"], [(1, n, 1, n), (0, n, 0, n)]),
                (["uvUV"], [(1, 2, n, n), (n, 3, 0, n), (3, n, n, 0), (n, n, 2, 1)])]:
            self.assertEqual(graph_of(tables_of(words)), graph)

    def test_states_are_found_in_the_order_of_the_letters(self):
        # From state 0 all four letters lead to states of their own.
        n = None
        told = graph_of(tables_of(["uuuu", "vvvv"]))
        self.assertEqual(told, [(1, 2, 3, 4), (5, n, 0, n), (n, 6, n, 0), (0, n, 5, n), (n, 0, n, 6), (3, n, 1, n),
                                (n, 4, n, 2)])

    def test_it_is_made_of_tuples_of_four_in_a_list(self):
        for words in some_words(1, 50):
            told = graph_of(tables_of(words))
            self.assertIsInstance(told, list)
            for ends in told:
                self.assertIsInstance(ends, tuple)
                self.assertEqual(len(ends), 4)
                self.assertTrue(all(end is None or (type(end) is int and 0 <= end < len(told)) for end in ends))

    def test_as_found_by_joining(self):
        for words in some_words(2, 500) + [EIGHT]:
            self.assertEqual(graph_of(tables_of(words)), by_joining(words))

    def test_each_way_has_its_way_back(self):
        for words in some_words(3, 100):
            told = graph_of(tables_of(words))
            for state, place in itertools.product(range(len(told)), range(4)):
                end = told[state][place]
                self.assertTrue(end is None or told[end][(place + 2) % 4] == state)

    def test_makers_close_and_go_by_every_state(self):
        for words in some_words(4, 200):
            told = graph_of(tables_of(words))
            ways = [gone(told, word) for word in words]
            self.assertTrue(all(closes_by_hand(told, word) for word in words))
            self.assertEqual({0}.union(*ways), set(range(len(told))))

    def test_what_signed_rows_make_closes(self):
        chance = random.Random(5)
        for words in some_words(6, 100):
            told = graph_of(tables_of(words))
            for each in range(10):
                row = [chance.choice(words) for many in range(chance.randint(0, 8))]
                text = reduced("".join(chance.choice([word, turned(word)]) for word in row))
                self.assertTrue(closes_by_hand(told, text))

    def test_states_are_numbered_as_they_are_found(self):
        for words in some_words(7, 200):
            found = [0]
            for ends in graph_of(tables_of(words)):
                found += [end for place, end in enumerate(ends) if end is not None and end not in found + list(ends[:place])]
            self.assertEqual(found, list(range(len(found))))

    def test_in_another_order(self):
        chance = random.Random(8)
        for words in some_words(9, 200) + [EIGHT]:
            told = graph_of(tables_of(words))
            shuffled = chance.sample(words, len(words))
            self.assertEqual(graph_of(tables_of(shuffled)), told)

    def test_with_backs_in_their_place(self):
        chance = random.Random(10)
        for words in some_words(11, 200) + [EIGHT]:
            makers = tables_of(words)
            told = graph_of(makers)
            self.assertEqual(graph_of([back(maker) for maker in makers]), told)
            self.assertEqual(graph_of([chance.choice([maker, back(maker)]) for maker in makers]), told)

    def test_with_one_put_to_them_that_they_make(self):
        chance = random.Random(12)
        tried = 0
        for words in some_words(13, 300):
            row = [chance.choice(words) for many in range(chance.randint(0, 4))]
            made = reduced("".join(chance.choice([word, turned(word)]) for word in row))
            if len(made) <= 10 and len(words) < 8:
                tried += 1
                place = chance.randint(0, len(words))
                more = words[:place] + [made] + words[place:]
                self.assertEqual(graph_of(tables_of(more)), graph_of(tables_of(words)))
        self.assertGreater(tried, 50)

    def test_makers_alike_and_one_among_them(self):
        for words in [["u"], ["uvUV", "vvu"], ["uuvUU", "v"]]:
            told = graph_of(tables_of(words))
            self.assertEqual(graph_of(tables_of(words * 3)), told)
            self.assertEqual(graph_of(tables_of([""] + words + [""])), told)
            self.assertEqual(graph_of(tables_of(words + [turned(word) for word in words])), told)

    def test_powers_of_one_another(self):
        n = None
        for one, other, both in [(10, 9, 1), (10, 8, 2), (9, 6, 3), (10, 5, 5), (4, 8, 4), (7, 7, 7)]:
            told = graph_of(tables_of(["u" * one, "u" * other]))
            self.assertEqual(told, graph_of(tables_of(["u" * both])))
            self.assertEqual(len(told), both)
        self.assertEqual(graph_of(tables_of(["uvuv", "uvuvuv"])), [(1, n, n, 1), (n, 0, 0, n)])
        self.assertEqual(graph_of(tables_of(["uvvvU", "uvvU"])), graph_of(tables_of(["uvU"])))

    def test_eight_makers_of_ten_letters(self):
        chance = random.Random(14)
        for each in range(60):
            words = words_of_ten(chance)
            self.assertEqual(graph_of(tables_of(words)), by_joining(words))

    def test_a_great_one(self):
        words = ["u" * k + "v" * (10 - k) for k in range(1, 9)]
        told = graph_of(tables_of(words))
        self.assertEqual(told, by_joining(words))
        self.assertEqual(rank(tables_of(words)), 8)


class Closes(unittest.TestCase):
    def test_written_ones(self):
        for word, answer in [("", True), ("u", False), ("uu", True), ("v", True), ("uv", False), ("uvU", True), ("UU", True),
                             ("uvu", True), ("uVu", True), ("uvuvu", False), ("vvvVu", False), ("uuuu", True)]:
            self.assertIs(closes(TWO_STATES, word), answer)

    def test_that_cannot_be_gone(self):
        graph = graph_of(tables_of(["uvU"]))
        for word in ["v", "V", "U", "uu", "uvUv", "vuuU", "uvvvUV", "UvvvU"]:
            self.assertIs(closes(graph, word), False)
        for word in ["u", "U", "v", "V", "uU", "uvUV", "uv" * 200]:
            self.assertIs(closes([NO_WAYS], word), False)
        self.assertIs(closes([NO_WAYS], ""), True)

    def test_that_end_elsewhere(self):
        graph = graph_of(tables_of(["uvU"]))
        for word in ["u", "uv", "uvv", "uVVV", "uvUu"]:
            self.assertIs(closes(graph, word), False)
        self.assertIs(closes(graph, "uvvvU"), True)

    def test_that_are_not_reduced(self):
        graph = graph_of(tables_of(["uvU"]))
        for word, answer in [("uU", True), ("uvVU", True), ("uvVvU", True), ("uvUuvU", True), ("Uu", False), ("vV", False),
                             ("uvUvV", False), ("uuUU", False), ("uuUvU", False), ("uU" * 200, True)]:
            self.assertIs(closes(graph, word), answer)

    def test_any_words_in_any_graphs(self):
        chance = random.Random(15)
        answers = []
        for words in some_words(16, 200):
            graph = graph_of(tables_of(words))
            texts = ["".join(chance.choice("uvUV") for place in range(chance.randint(0, 6))) for each in range(10)]
            texts.append("".join(chance.choice(words) for many in range(chance.randint(0, 40))))
            for text in texts:
                answers.append(closes(graph, text))
                self.assertIs(answers[-1], closes_by_hand(graph, text))
        self.assertGreater(min(answers.count(True), answers.count(False)), 200)

    def test_words_of_four_hundred(self):
        self.assertIs(closes(TWO_STATES, "u" * 400), True)
        self.assertIs(closes(TWO_STATES, "u" * 399 + "v"), False)
        self.assertIs(closes([(0, 0, 0, 0)], "uvUV" * 100), True)

    def test_graphs_that_others_wrote(self):
        # A circle of a thousand states, and states that nothing leads to.
        circle = [((k + 1) % 1000, None, (k - 1) % 1000, None) for k in range(1000)]
        self.assertIs(closes(circle, "u" * 400), False)
        self.assertIs(closes(circle, "u" * 200 + "U" * 200), True)
        self.assertIs(closes([(0, None, 0, None), (None, 1, None, 1)], "uu"), True)
        self.assertIs(closes([(0, None, 0, None), (None, 1, None, 1)], "v"), False)


class RankAndIndex(unittest.TestCase):
    def test_written_ones(self):
        for words, many, states in [
                ([""], 0, None), (["", ""], 0, None), (["u"], 1, None), (["u", "u"], 1, None), (["u", "v"], 2, 1),
                (["uu", "v", "uvU"], 3, 2), (["uu", "uuu"], 1, None), (["uv"], 1, None), (["uv", "vu"], 2, None),
                (["u", "vvv", "vuV", "Vuv"], 4, 3), (["uvUV"], 1, None), (["u", "v", "uv"], 2, 1), (["uvU", "v"], 2, None),
                (["uu", "vv", "uv"], 3, 2), (["uu", "vv", "uv", "vu", "uV"], 3, 2)]:
            self.assertEqual(rank(tables_of(words)), many)
            self.assertEqual(index(tables_of(words)), states)

    def test_by_the_graph(self):
        found = 0
        for words in some_words(17, 400):
            makers = tables_of(words)
            graph = by_joining(words)
            ways = sum(end is not None for ends in graph for end in ends[:2])
            self.assertEqual(rank(makers), ways - len(graph) + 1)
            whole = all(end is not None for ends in graph for end in ends)
            self.assertEqual(index(makers), len(graph) if whole else None)
            found += whole
        self.assertGreater(found, 20)

    def test_where_some_none_is_told_there_is_no_index(self):
        # Only one of four letters is missing at one state, with its back at another.
        words = ["u", "vuV", "vvuVV"]
        self.assertEqual(index(tables_of(words)), None)
        self.assertEqual(index(tables_of(words + ["vvv"])), 3)

    def test_the_index_is_one_less_than_the_rank(self):
        # Seven states by v, each with its own u: as many as eight makers can have.
        words = ["vvvvvvv"] + [reduced("v" * k + "u" + "V" * k) if k < 4 else "V" * (7 - k) + "u" + "v" * (7 - k)
                               for k in range(7)]
        self.assertEqual(rank(tables_of(words)), 8)
        self.assertEqual(index(tables_of(words)), 7)


class Bars(unittest.TestCase):
    def test_the_graph_of_the_makers(self):
        chance = random.Random(18)
        answers = []
        for words in some_words(19, 300):
            makers = tables_of(words)
            graph = graph_of(makers)
            row = [chance.choice(words) for many in range(chance.randint(0, 6))]
            for text in [any_word(chance, 0, 8), reduced("".join(row)), turned(reduced("".join(row)))]:
                answers.append(bars(makers, wide_table(text), graph))
                self.assertIs(answers[-1], not closes_by_hand(by_joining(words), text))
            self.assertIs(bars(makers, ONE, graph), False)
        self.assertGreater(min(answers.count(True), answers.count(False)), 100)

    def test_graphs_of_other_makers(self):
        makers = tables_of(["uu", "uvU"])
        # It closes all that the makers make, and more, but not an odd number of u.
        for text, answer in [("u", True), ("uv", True), ("vuv", True), ("uuu", True), ("v", False), ("uu", False),
                             ("uvvU", False), ("", False)]:
            self.assertIs(bars(makers, wide_table(text), TWO_STATES), answer)
        # In these some maker doesn't close.
        for others in [["u"], ["uu"], ["uvU"], ["uu", "v"], ["v"], [""], ["uuu", "uvU"]]:
            if not all(closes_by_hand(by_joining(others), word) for word in ["uu", "uvU"]):
                for text in ["u", "v", "uv", ""]:
                    self.assertIs(bars(makers, wide_table(text), graph_of(tables_of(others))), False)
        # All words close in this one, so that nothing is barred.
        for text in ["u", "v", "uv", "UUv"]:
            self.assertIs(bars(makers, wide_table(text), [(0, 0, 0, 0)]), False)

    def test_any_graphs_of_other_makers(self):
        chance = random.Random(20)
        answers = []
        for words in some_words(21, 300):
            others = (words + [any_word(chance, 1, 6)])[-8:]
            graph = by_joining(others)
            text = any_word(chance, 0, 6)
            closed = all(closes_by_hand(graph, word) for word in words)
            answers.append(bars(tables_of(words), wide_table(text), graph))
            self.assertIs(answers[-1], closed and not closes_by_hand(graph, text))
        self.assertGreater(min(answers.count(True), answers.count(False)), 30)

    def test_a_graph_may_have_more_than_is_needed(self):
        makers = tables_of(["uu", "v"])
        n = None
        for graph in [TWO_STATES + [NO_WAYS], TWO_STATES + [(2, n, 2, n)], TWO_STATES + [NO_WAYS] * 998,
                      [(1, 0, 1, 0), (0, n, 0, n)], [(1, 0, 1, 0), (0, 2, 0, n), (n, n, n, 1)]]:
            self.assertIs(bars(makers, wide_table("u"), graph), True)
            self.assertIs(bars(makers, wide_table("uuv"), graph), False)

    def test_states_in_another_order(self):
        # The states behind 0 are not numbered as they are found.
        n = None
        graph = [(2, n, 1, n), (0, n, 2, n), (1, n, 0, n)]
        self.assertIs(bars(tables_of(["uuu"]), wide_table("uu"), graph), True)
        self.assertIs(bars(tables_of(["uuu"]), wide_table("uuuuuu"), graph), False)

    def test_lists_that_are_no_graph(self):
        makers, table = tables_of([""]), wide_table("u")
        n = None
        self.assertIs(bars(makers, table, [NO_WAYS]), True)
        for graph in [
                [], [(1, n, 1, n)], [(-1, n, -1, n)], [(n, -1, n, -1)], [NO_WAYS, (-1, n, -1, n)], [NO_WAYS, (n, 2, n, 2)],
                [NO_WAYS, (1, n, n, n)], [NO_WAYS, (n, n, 1, n)], [NO_WAYS, (n, 1, n, n)], [NO_WAYS, (n, n, n, 1)],
                [NO_WAYS, (2, n, n, n), NO_WAYS], [NO_WAYS, (n, n, 2, n), NO_WAYS], [NO_WAYS, (n, n, n, 2), NO_WAYS],
                [NO_WAYS, (2, n, 2, n), (1, n, n, n)], [NO_WAYS, (2, n, n, n), (n, n, n, 1)],
                [NO_WAYS, (2, n, n, n), (n, n, 1, n), (n, n, 1, n)], [NO_WAYS, (2, n, n, n), (n, 1, n, n)],
                [NO_WAYS, (GREAT, n, n, n)], [NO_WAYS, (-GREAT, n, n, n)], [NO_WAYS, (n, n, n, -2)], [(n, 0, n, n)],
                [(n, n, n, 0)], [(0, 0, 0, 0), (n, n, n, 0)], [(n, 1, n, n), (n, n, n, n)], [(n, 0, 0, n)],
                [NO_WAYS, (-2, n, -2, n)], [NO_WAYS, (-1, n, 1, n)], [NO_WAYS, (1, n, -1, n)]]:
            self.assertIs(bars(makers, table, graph), False)

    def test_a_way_without_its_way_back_at_any_place(self):
        makers, table = tables_of(["uu", "v"]), wide_table("u")
        self.assertIs(bars(makers, table, TWO_STATES), True)
        whole = [(1, 0, 1, 0), (0, 2, 0, 2), (2, 1, 2, 1)]
        self.assertIs(bars(makers, table, whole), True)
        for state, place, other in itertools.product(range(3), range(4), [None, -1, -3, 0, 1, 2, 3, GREAT, -GREAT]):
            if whole[state][place] != other:
                broken = list(whole)
                broken[state] = whole[state][:place] + (other,) + whole[state][place + 1:]
                self.assertIs(bars(makers, table, broken), False)

    def test_things_that_are_no_list_of_tuples(self):
        makers, table = tables_of([""]), wide_table("u")
        for thing in [None, True, 0, "", "uvUV", (), (NO_WAYS,), [None], [[None] * 4], ["uvUV"], [(None,) * 3], [(None,) * 5],
                      [(False, None, False, None)], [NO_WAYS, (True, None, True, None)], [("0", None, "0", None)], [[]]]:
            self.assertIs(bars(makers, table, thing), False)

    def test_tables_of_four_hundred_letters(self):
        makers = tables_of(["uu", "v"])
        self.assertIs(bars(makers, wide_table("u" * 400), TWO_STATES), False)
        self.assertIs(bars(makers, wide_table("u" * 399 + "v"), TWO_STATES), True)


class Refusals(unittest.TestCase):
    def assert_refused(self, makers):
        graph = copy.deepcopy(TWO_STATES)
        for asked in [graph_of, rank, index, lambda makers: bars(makers, wide_table("u"), graph)]:
            handed = copy.deepcopy(makers)
            with self.assertRaises(NoMakers):
                asked(handed)
            self.assertEqual(handed, makers)
        self.assertEqual(graph, TWO_STATES)

    def test_how_many_makers(self):
        for many in [0, 9, 10, 1000]:
            self.assert_refused([wide_table("u")] * many)
            self.assert_refused([ONE] * many)
        for many in range(1, 9):
            self.assertEqual(rank([wide_table("u")] * many), 1)

    def test_one_is_a_wide_maker(self):
        for many in range(1, 9):
            self.assertEqual(graph_of([ONE] * many), [NO_WAYS])
            self.assertEqual(rank([ONE] * many), 0)
            self.assertIs(index([ONE] * many), None)
            self.assertIs(bars([ONE] * many, wide_table("u"), TWO_STATES), True)

    def test_a_bad_maker_at_any_place(self):
        for bad in BAD_MAKERS:
            for many in [1, 3, 8]:
                for place in range(many):
                    makers = [wide_table("uv")] * many
                    makers[place] = bad
                    self.assert_refused(makers)

    def test_makers_of_ten_letters_are_taken(self):
        for word in ["u" * 10, "V" * 10, "uvUVuvUVuv"]:
            self.assertEqual(len(graph_of(tables_of([word]))), 10)

    def test_things_that_are_no_makers(self):
        for thing in NO_MAKERS:
            self.assert_refused(thing)

    def test_bars_refuses_tables(self):
        even = GREAT - 1
        for graph in [TWO_STATES, [], [NO_WAYS], [(5, -1, 0, None)]]:
            for table in [(1, 1, 0, 1), (-1, 0, 0, -1), (0, 0, 0, 0), (1, GREAT, 0, 1), (-1, even, 0, -1), None, "u"]:
                with self.assertRaises(NoWide):
                    bars(tables_of(["uu", "v"]), table, graph)
            for table in [(1, 802, 0, 1), (1, 0, -802, 1), (1, even, 0, 1), (1, 0, -even, 1),
                          product_of(tables_of(["uv" * 200, "u"]))]:
                with self.assertRaises(TooLong):
                    bars(tables_of(["uu", "v"]), table, graph)

    def test_several_faults_at_once(self):
        tables = [(1, 1, 0, 1), (-1, 0, 0, -1), (1, 802, 0, 1), (1, GREAT - 1, 0, 1), (1, GREAT, 0, 1)]
        for table, graph in itertools.product(tables, [TWO_STATES, [], [(7, None, None, None)]]):
            for makers in [[], [ONE] * 9] + [[wide_table("u"), bad] for bad in BAD_MAKERS]:
                with self.assertRaises(NoMakers):
                    bars(makers, table, graph)


class Lists(unittest.TestCase):
    def test_what_is_handed_in_is_as_it_was(self):
        for words in [["uvU", "vv", "", "uvU"], ["u", "v"]]:
            makers = tables_of(words)
            graph = graph_of(makers)
            kept = copy.deepcopy(graph)
            rank(makers)
            index(makers)
            bars(makers, wide_table("uv"), graph)
            closes(graph, "uvvU")
            self.assertEqual(makers, tables_of(words))
            self.assertEqual(graph, kept)
            for table in [(1, 1, 0, 1), (1, 802, 0, 1)]:
                with self.assertRaises((NoWide, TooLong)):
                    bars(makers, table, graph)
            self.assertEqual(makers, tables_of(words))
            self.assertEqual(graph, kept)

    def test_a_told_graph_is_the_askers_own(self):
        for words in [["uvU", "vv"], ["u", "v"], [""]]:
            makers = tables_of(words)
            first = graph_of(makers)
            kept = list(first)
            again = graph_of(makers)
            self.assertIsNot(first, again)
            first[0] = (0, 0, 0, 0)
            first.append(NO_WAYS)
            self.assertEqual(again, kept)
            self.assertEqual(graph_of(makers), kept)
            self.assertEqual((rank(makers), index(makers)), (rank(tables_of(words)), index(tables_of(words))))

    def test_makers_changed_later_change_no_told_graph(self):
        makers = tables_of(["uu", "v", "uvU"])
        told = graph_of(makers)
        makers.clear()
        self.assertEqual(told, TWO_STATES)

    def test_the_word_of_a_table_closes_just_where_the_table_is_not_barred(self):
        for words in some_words(22, 50):
            graph = graph_of(tables_of(words))
            for text in ["u", "vu", "uvUV", "uuv"]:
                self.assertIs(closes(graph, wide_word(wide_table(text))), not bars(tables_of(words), wide_table(text), graph))


if __name__ == "__main__":
    unittest.main()
