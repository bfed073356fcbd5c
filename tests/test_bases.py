"""Points 17 and 18: the basis of wide makers, the common basis of two lists; and points 2 and 3, of quadwords/bases.py."""

import copy
import itertools
import math
import random
import unittest

from quadwords.bases import basis, common, same_wide
from quadwords.errors import NoMakers
from quadwords.graphs import closes, graph_of, index, rank
from quadwords.signed import relation, signed_row
from quadwords.tables import back, product
from quadwords.wide import is_wide, reduced, wide_table, wide_word, wide_word_within
from wide_makers import (ONE, basis_by_hand, by_joining, multiplied_out, refused_wide, shortened, some_words, tables_of,
                         turned, words_of_ten)

FULL = [["u", "v"], ["uu", "v", "uvU"], ["uuu", "uvU", "v", "uuvUU"], ["uu", "vv", "uv"], ["u", "vv", "vuV"],
        ["uu", "vuV", "vv", "uvvU", "uvuVU"], ["uu", "v", "uvU", "uuuu", "v"]]
# Makers whose graph has a way of u alone through 46 states: it leaves the makers' own ways at each power of v.
LONG_WAY = ["uuuuuuuuuv", "Vuuuuuuuvv", "VVuuuuuuuV", "vuuuuuuuVV", "vvuuuuuvvv", "VVVuuuuVVV", "vvvuuuuuuu"]


def words_of(tables):
    """The reduced words of tables, however long they are."""
    return [wide_word_within(table, 10 ** 6) for table in tables]


def reduced_words(most):
    """All reduced words of at most so many letters."""
    told, level = [""], [""]
    for length in range(most):
        level = [word + letter for word in level for letter in "uvUV" if not word.endswith(letter.swapcase())]
        told += level
    return told


def made_short(tables):
    """Whether tables could be handed in as wide makers."""
    return 1 <= len(tables) <= 8 and all(len(word) <= 10 for word in words_of(tables))


def loops_of_both(one, other):
    """Words of which all that close in both graphs are put together: each way between pairs of states, with a way to it.

    Pairs are gone through deepest first, unlike the order in which states are numbered.
    """
    stems, waiting = {(0, 0): ""}, [(0, 0)]
    loops = []
    while waiting:
        pair = waiting.pop()
        for place, letter in enumerate("VUvu"):
            ends = (one[pair[0]][3 - place], other[pair[1]][3 - place])
            if None in ends:
                continue
            if ends not in stems:
                stems[ends] = stems[pair] + letter
                waiting.append(ends)
            loops.append((pair, letter, ends))
    return [shortened(stems[start] + letter + turned(stems[end])) for start, letter, end in loops]


class Basis(unittest.TestCase):
    def test_written_ones(self):
        for words, told in [
                (["u"], ["u"]), (["U"], ["u"]), (["V", "u"], ["u", "v"]), (["v", "u"], ["u", "v"]), (["uu"], ["uu"]),
                (["uu", "v", "uvU"], ["v", "uu", "uvU"]), (["Uvu"], ["Uvu"]), (["UVu"], ["Uvu"]), (["uvUV"], ["vuVU"]),
                (["uv"], ["uv"]), (["VU"], ["uv"]), (["Uv"], ["Uv"]), (["Vu"], ["Uv"]), (["vvv"], ["vvv"]),
                (["uu", "uuu"], ["u"]),
                (["u", "vuV"], ["u", "vuV"]), (["uv", "uV"], ["vU", "uv"]), (["uvv", "VVu"], ["uu", "uvv"])]:
            self.assertEqual(words_of(basis(tables_of(words))), told, words)

    def test_as_the_point_tells_it(self):
        for words in some_words(21, 400) + FULL + [LONG_WAY]:
            makers = tables_of(words)
            told = basis(makers)
            by_hand = basis_by_hand(graph_of(makers))
            self.assertIsInstance(told, list)
            self.assertEqual(words_of(told), by_hand)
            self.assertEqual(told, [multiplied_out(word) for word in by_hand])

    def test_of_eight_makers_of_ten_letters(self):
        chance = random.Random(22)
        for each in range(60):
            words = words_of_ten(chance)
            self.assertEqual(words_of(basis(tables_of(words))), basis_by_hand(by_joining(words)))

    def test_each_word_closes(self):
        for words in some_words(23, 200) + FULL:
            makers = tables_of(words)
            graph = graph_of(makers)
            told = basis(makers)
            self.assertEqual(len(told), rank(makers))
            for table in told:
                self.assertTrue(is_wide(table))
                self.assertTrue(closes(graph, wide_word(table)))
                self.assertIsNotNone(signed_row(makers, table))

    def test_it_is_free_and_makes_what_the_makers_make(self):
        tried = 0
        for words in some_words(24, 300) + FULL:
            makers = tables_of(words)
            told = basis(makers)
            self.assertEqual(by_joining(words_of(told)) if told else [(None,) * 4], graph_of(makers))
            if made_short(told):
                tried += 1
                self.assertEqual(graph_of(told), graph_of(makers))
                self.assertIsNone(relation(told))
                self.assertEqual(basis(told), told)
        self.assertGreater(tried, 150)

    def test_of_makers_that_are_one(self):
        for many in range(1, 9):
            self.assertEqual(basis([ONE] * many), [])
        self.assertEqual(basis([ONE, wide_table("uv"), ONE]), [wide_table("uv")])

    def test_of_makers_alike_and_turned(self):
        for words in [["uv"], ["uvUV", "vvu"], ["uuvUU", "v"]]:
            told = basis(tables_of(words))
            self.assertEqual(basis(tables_of(words * 3)), told)
            self.assertEqual(basis(tables_of([turned(word) for word in words])), told)
            self.assertEqual(basis(tables_of(words[::-1] + [turned(word) for word in words])), told)

    def test_of_powers_of_one_another(self):
        for one, other in itertools.product(range(1, 11), repeat=2):
            both = math.gcd(one, other)
            self.assertEqual(basis(tables_of(["u" * one, "U" * other])), [wide_table("u" * both)])
        self.assertEqual(words_of(basis(tables_of(["uvuv", "uvuvuv"]))), ["uv"])
        self.assertEqual(words_of(basis(tables_of(["uvvU", "uVVVU"]))), ["uvU"])

    def test_where_the_graph_tells_no_none(self):
        for words in FULL:
            makers = tables_of(words)
            self.assertIsNotNone(index(makers))
            self.assertEqual(len(basis(makers)), index(makers) + 1)

    def test_in_another_order(self):
        chance = random.Random(25)
        for words in some_words(26, 100):
            self.assertEqual(basis(tables_of(chance.sample(words, len(words)))), basis(tables_of(words)))


class Common(unittest.TestCase):
    def assert_common(self, words, others):
        """What is told is made by both, makes all that both make, and is the basis of its own graph."""
        one, other = by_joining(words), by_joining(others)
        told = common(tables_of(words), tables_of(others))
        self.assertIsInstance(told, list)
        told_words = words_of(told)
        for word in told_words:
            self.assertTrue(closes(one, word) and closes(other, word))
        graph = by_joining(told_words) if told_words else [(None,) * 4]
        for word in loops_of_both(one, other):
            self.assertTrue(closes(graph, word))
        self.assertEqual(told_words, basis_by_hand(graph))
        self.assertEqual(told, [multiplied_out(word) for word in told_words])
        return told_words

    def test_written_ones(self):
        for words, others, told in [
                (["u"], ["u"], ["u"]), (["uu"], ["uuu"], ["u" * 6]), (["u", "v"], ["uv"], ["uv"]), (["u"], ["v"], []),
                (["uu", "v"], ["u", "vv"], ["uu", "vv"]), (["uv"], ["vu"], []), (["uvU"], ["v"], []),
                (["u", "vuV"], ["u", "vvuVV"], ["u"]), (["uvU", "u"], ["v", "uu"], ["v", "uu"]),
                (["uu", "v", "uvU"], ["vv", "u", "vuV"], ["uu", "vuVU", "vv", "uvuV", "uvvU"])]:
            self.assertEqual(self.assert_common(words, others), told)

    def test_any_lists(self):
        asked = some_words(31, 80)
        found = [self.assert_common(one, other) for one, other in zip(asked, asked[1:])]
        self.assertGreater(len([words for words in found if len(words) > 1]), 5)

    def test_lists_that_have_much_in_common(self):
        chance = random.Random(32)
        many = 0
        for each in range(150):
            pieces = ["".join(chance.choice("uuuvU") for place in range(chance.randint(1, 3))) for number in range(5)]
            lists = []
            for number in range(2):
                rows = [[chance.choice(pieces) for place in range(3)] for maker in range(chance.randint(1, 6))]
                lists.append([reduced("".join(row))[:10] for row in rows])
            many += len(self.assert_common(*lists)) > 1
        self.assertGreater(many, 40)

    def test_where_both_tell_no_none(self):
        for one, other in itertools.product(FULL, repeat=2):
            told = self.assert_common(one, other)
            many = index(tables_of(one)) * index(tables_of(other))
            # Its index is one less than its makers are, at least either's and at most both's multiplied.
            self.assertTrue(max(index(tables_of(one)), index(tables_of(other))) <= len(told) - 1 <= many)

    def test_a_word_closes_just_where_it_closes_in_both(self):
        words = reduced_words(6)
        tried = 0
        for one, other in itertools.product(FULL[:4] + [["uuu", "v"], ["uv", "vu", "uu"], ["u", "vuV"]], repeat=2):
            told = common(tables_of(one), tables_of(other))
            if made_short(told):
                tried += 1
                graphs = [graph_of(tables_of(one)), graph_of(tables_of(other)), graph_of(told)]
                for word in words:
                    first, second, both = [closes(graph, word) for graph in graphs]
                    self.assertIs(both, first and second)
        self.assertGreater(tried, 20)

    def test_of_a_list_and_itself(self):
        for words in some_words(33, 150) + FULL:
            makers = tables_of(words)
            self.assertEqual(common(makers, makers), basis(makers))
            self.assertEqual(common(makers, [back(maker) for maker in makers]), basis(makers))

    def test_with_what_makes_all(self):
        for words in some_words(34, 100):
            makers = tables_of(words)
            self.assertEqual(common(makers, tables_of(["u", "v"])), basis(makers))
            self.assertEqual(common(tables_of(["uV", "v"]), makers), basis(makers))
            self.assertEqual(common(makers, [ONE]), [])

    def test_told_the_other_way_about(self):
        asked = some_words(35, 100)
        for one, other in zip(asked, asked[1:] + FULL):
            told = common(tables_of(one), tables_of(other))
            self.assertEqual(common(tables_of(other), tables_of(one)), told)
            if made_short(told):
                self.assertTrue(same_wide(told, common(tables_of(other), tables_of(one))))

    def test_nothing_in_common_but_one(self):
        for one, other in [(["u"], ["v"]), ([""], ["u", "v"]), ([""], [""]), (["uv"], ["vu"]), (["uu", "vv"], ["uv"]),
                           (["u", "vuV"], ["v"]), (["uvUV"], ["uuvUUV"]), (["uuuuuuuuuu"] * 8, ["vvvvvvvvvv"] * 8)]:
            self.assertEqual(common(tables_of(one), tables_of(other)), [])
            self.assertEqual(common(tables_of(other), tables_of(one)), [])

    def test_powers(self):
        for one, other in itertools.product(range(1, 11), repeat=2):
            both = math.lcm(one, other)
            self.assertEqual(common(tables_of(["v" * one]), tables_of(["V" * other])), [(1, 0, 2 * both, 1)])

    def test_a_word_of_more_than_four_hundred_letters(self):
        nine = common(tables_of(LONG_WAY), tables_of(["u" * 9]))
        self.assertEqual(nine, [(1, 2 * 46 * 9, 0, 1)])
        self.assertEqual(self.assert_common(LONG_WAY, ["u" * 9]), ["u" * 414])

    def test_eight_makers_of_ten_letters(self):
        chance = random.Random(36)
        for each in range(20):
            one = words_of_ten(chance)
            other = chance.sample(one, 3) + words_of_ten(chance)[:5]
            self.assertGreaterEqual(len(self.assert_common(one, other)), 3)

    def test_each_table_is_made_by_both(self):
        asked = FULL + some_words(37, 30)
        for one, other in zip(asked, asked[1:]):
            makers, others = tables_of(one), tables_of(other)
            for table in common(makers, others):
                if wide_word_within(table, 400) is not None:
                    self.assertIsNotNone(signed_row(makers, table))
                    self.assertIsNotNone(signed_row(others, table))


class SameWide(unittest.TestCase):
    def assert_same(self, makers, others, answer):
        self.assertIs(same_wide(makers, others), answer)
        self.assertIs(same_wide(others, makers), answer)

    def test_written_ones(self):
        for one, other, answer in [(["u"], ["U"], True), (["u"], ["uu"], False), (["u", "v"], ["uv", "V"], True),
                                   (["uu", "uuu"], ["u"], True), ([""], ["", ""], True), ([""], ["u"], False),
                                   (["uv"], ["vu"], False), (["uvU", "u"], ["v", "u"], True), (["uvU"], ["v"], False)]:
            self.assert_same(tables_of(one), tables_of(other), answer)

    def test_with_the_basis(self):
        tried = 0
        for words in some_words(41, 200) + FULL:
            told = basis(tables_of(words))
            if made_short(told):
                tried += 1
                self.assert_same(tables_of(words), told, True)
        self.assertGreater(tried, 100)

    def test_with_one_maker_left_out(self):
        answers = []
        for words in some_words(42, 200) + FULL:
            makers = tables_of(words)
            for place in range(len(makers)):
                without = makers[:place] + makers[place + 1:]
                if without:
                    answers.append(signed_row(without, makers[place]) is not None)
                    self.assert_same(makers, without, answers[-1])
        self.assertGreater(answers.count(True), 50)
        self.assertGreater(answers.count(False), 50)

    def test_with_backs_in_makers_places(self):
        chance = random.Random(43)
        for words in some_words(44, 200):
            makers = tables_of(words)
            self.assert_same(makers, [chance.choice([maker, back(maker)]) for maker in makers], True)

    def test_with_a_maker_put_behind_another(self):
        chance = random.Random(45)
        for words in some_words(46, 200):
            makers = tables_of(words)
            one, other = chance.sample(range(len(makers)), 2) if len(makers) > 1 else (0, 0)
            both = product(makers[one], makers[other])
            if one != other and len(wide_word(both)) <= 10:
                changed = makers[:one] + [both] + makers[one + 1:]
                self.assert_same(makers, changed, True)

    def test_any_two_lists(self):
        asked = some_words(47, 40) + [["u", "v"], ["v", "U"], ["uu", "v", "uvU"]]
        for one, other in itertools.product(asked, repeat=2):
            within = [all(closes(by_joining(one), word) for word in other),
                      all(closes(by_joining(other), word) for word in one)]
            self.assertIs(same_wide(tables_of(one), tables_of(other)), all(within))


def askings():
    """Each question of this module, as one of one list of wide makers."""
    good = tables_of(["uv", "u"])
    return [basis, lambda makers: common(makers, good), lambda makers: common(good, makers),
            lambda makers: common(makers, makers), lambda makers: same_wide(makers, good),
            lambda makers: same_wide(good, makers), lambda makers: same_wide(makers, makers)]


class Refusals(unittest.TestCase):
    def test_no_makers(self):
        for makers in refused_wide():
            for asked in askings():
                handed = copy.deepcopy(makers)
                with self.assertRaises(NoMakers):
                    asked(handed)
                self.assertEqual(handed, makers)

    def test_of_both_lists(self):
        for asked in [common, same_wide]:
            for one, other in itertools.product([[], [(1, 1, 0, 1)], [ONE] * 9, [(1, 22, 0, 1)]], repeat=2):
                with self.assertRaises(NoMakers):
                    asked(one, other)

    def test_as_many_and_as_long_as_may_be(self):
        words = ["u" * 10] * 8
        self.assertEqual(basis(tables_of(words)), [(1, 20, 0, 1)])
        self.assertEqual(common(tables_of(words), tables_of(words)), [(1, 20, 0, 1)])
        self.assertIs(same_wide(tables_of(words), tables_of(["U" * 10])), True)


class Lists(unittest.TestCase):
    def test_what_is_handed_in_is_as_it_was(self):
        for words in [["uv", "u", "", "u"], ["uu", "v", "uvU"]]:
            for asked in askings():
                makers = tables_of(words)
                asked(makers)
                self.assertEqual(makers, tables_of(words))

    def test_told_lists_are_the_askers_own(self):
        makers, others = tables_of(["uu", "v", "uvU"]), tables_of(["u", "vv", "vuV"])
        for asked in [lambda: basis(makers), lambda: common(makers, others), lambda: common(makers, makers),
                      lambda: basis([ONE])]:
            first = asked()
            kept = list(first)
            again = asked()
            self.assertIsNot(first, again)
            first.append("other")
            first[0] = "other"
            self.assertEqual(again, kept)
            self.assertEqual(asked(), kept)
        self.assertEqual(makers, tables_of(["uu", "v", "uvU"]))

    def test_makers_changed_later_change_nothing_told(self):
        makers = tables_of(["uu", "v", "uvU"])
        told = [basis(makers), common(makers, makers)]
        kept = copy.deepcopy(told)
        makers.clear()
        self.assertEqual(told, kept)
        self.assertEqual(basis(tables_of(["uu", "v", "uvU"])), kept[0])


if __name__ == "__main__":
    unittest.main()
