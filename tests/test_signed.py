"""Points 12, 15 and 16: signed rows of wide makers; and points 2 and 3, of what quadwords/signed.py takes and tells."""

import copy
import itertools
import random
import unittest

from quadwords.errors import NoMakers, NoWide, TooLong
from quadwords.graphs import bars, graph_of, rank
from quadwords.signed import relation, row_made, signed_row
from quadwords.tables import back, product_of
from quadwords.wide import reduced, wide_table, wide_word
from wide_makers import BAD_MAKERS, GREAT, NO_MAKERS, ONE, any_word, some_words, tables_of, turned, words_of_ten

# Free makers of which a short word takes a long row: each is the last one's neighbour with powers of it behind.
CHAIN = ["UUUUvuuuu", "UUUvUvuuuu", "UUvUvvvuuu", "UvUvvvvvuu", "vUvvvvvvvu", "uvUvvvvvvv"]


def any_row(chance, many, length):
    return [chance.choice([1, -1]) * chance.randint(1, many) for place in range(length)]


def reduced_row(row):
    told = []
    for number in row:
        told = told[:-1] if told and told[-1] == -number else told + [number]
    return told


def multiplied(makers, row):
    """What a signed row makes, multiplied out."""
    return product_of([makers[number - 1] if number > 0 else back(makers[-number - 1]) for number in row])


def is_reduced(row):
    return all(one != -other for one, other in zip(row, row[1:]))


def reduced_rows(many, length):
    """All reduced signed rows of up to so many numbers, but the empty one."""
    numbers = [number for number in range(-many, many + 1) if number]
    rows = [row for size in range(1, length + 1) for row in itertools.product(numbers, repeat=size)]
    return [list(row) for row in rows if is_reduced(row)]


def loops(graph):
    """Words that close, of which each word that closes is put together: the way to a state, a letter, the way back."""
    stems = {0: ""}
    for state in range(len(graph)):
        for letter, end in zip("uvUV", graph[state]):
            if end is not None and end not in stems:
                stems[end] = stems[state] + letter
    return [reduced(stems[state] + letter + turned(stems[end])) for state, ends in enumerate(graph)
            for letter, end in zip("uvUV", ends) if end is not None]


class RowMade(unittest.TestCase):
    def test_written_ones(self):
        makers = tables_of(["u", "vv", "uV"])
        for row, word in [([], ""), ([1], "u"), ([-1], "U"), ([2], "vv"), ([-2], "VV"), ([3], "uV"), ([-3], "vU"),
                          ([1, 2], "uvv"), ([2, 1], "vvu"), ([-3, 1], "v"), ([1, -1], ""), ([3, 2, -1], "uvU")]:
            self.assertEqual(row_made(makers, row), wide_table(word))

    def test_rows_that_are_not_reduced(self):
        makers = tables_of(["uv", "vu"])
        for row in [[1, -1], [-2, 2], [1, 2, -2, -1], [1, -1] * 200, [1, 1, -1, -1, 2, -2]]:
            self.assertEqual(row_made(makers, row), ONE)

    def test_any_rows(self):
        chance = random.Random(1)
        for words in some_words(2, 200):
            makers = tables_of(words)
            row = any_row(chance, len(words), chance.randint(0, 20))
            self.assertEqual(row_made(makers, row), multiplied(makers, row))
            text = "".join(words[number - 1] if number > 0 else turned(words[-number - 1]) for number in row)
            self.assertEqual(row_made(makers, row), wide_table(text))

    def test_the_empty_row(self):
        for words in [["u"], [""], ["uvUV"] * 8]:
            self.assertEqual(row_made(tables_of(words), []), ONE)

    def test_long_rows(self):
        chance = random.Random(3)
        for words in [["u", "v"], ["uvUVuvUVuv", "vvvvvvvvvv", "UVUVUVUVUV"], ["uuuuuuuuuu"] * 8]:
            makers = tables_of(words)
            row = any_row(chance, len(words), 1000)
            self.assertEqual(row_made(makers, row), multiplied(makers, row))
        self.assertEqual(row_made(tables_of(["u"]), [1] * 1000), (1, 2000, 0, 1))
        self.assertEqual(row_made(tables_of(["u"]), [-1] * 1000), (1, -2000, 0, 1))
        self.assertEqual(row_made(tables_of(["v" * 10]), [1, 1, -1] * 300), (1, 0, 6000, 1))

    def test_makers_that_are_one(self):
        makers = tables_of(["", "u", ""])
        self.assertEqual(row_made(makers, [1, 2, -3, 3, 3, 2, -1]), wide_table("uu"))


class SignedRow(unittest.TestCase):
    def assert_made(self, makers, table):
        told = signed_row(makers, table)
        self.assertIsInstance(told, list)
        self.assertTrue(all(type(number) is int and 1 <= abs(number) <= len(makers) for number in told))
        self.assertTrue(is_reduced(told))
        self.assertEqual(multiplied(makers, told), table)
        self.assertEqual(row_made(makers, told), table)
        return told

    def test_written_ones(self):
        # Of free makers there is just one reduced row.
        for words, text, row in [(["u"], "uuu", [1, 1, 1]), (["u"], "UU", [-1, -1]), (["u", "v"], "uVu", [1, -2, 1]),
                                 (["uv", "v"], "u", [1, -2]), (["uv", "v"], "uU", []), (["uu", "v", "uvU"], "uvvU", [3, 3]),
                                 (["uu", "v", "uvU"], "uvu", [3, 1]), (["u", "uv"], "VU", [-2]), (["v", "uv"], "VU", [-2]),
                                 (["uvU", "u"], "v", [-2, 1, 2]), (["Uvvu"], "UVVVVu", [-1, -1]), (["uvUV"], "vuVU", [-1])]:
            self.assertEqual(self.assert_made(tables_of(words), wide_table(text)), row)

    def test_the_table_one(self):
        for words in some_words(4, 50) + [[""], ["", ""], ["u", "u"], ["uu", "uuu"]]:
            self.assert_made(tables_of(words), ONE)

    def test_where_no_row_makes_the_table(self):
        for words, text in [(["u"], "v"), (["uu"], "u"), (["uu"], "uuu"), (["uv"], "u"), (["uvU"], "v"), (["u", "vv"], "uvu"),
                            ([""], "u"), (["uu", "v", "uvU"], "uv"), (["uvUV"], "vuVUv"), (["u" * 9, "u" * 6], "uu")]:
            self.assertIs(signed_row(tables_of(words), wide_table(text)), None)

    def test_of_what_rows_make(self):
        chance = random.Random(5)
        for words in some_words(6, 400):
            makers = tables_of(words)
            for length in [1, 2, 5, 12]:
                self.assert_made(makers, row_made(makers, any_row(chance, len(words), length)))

    def test_none_just_where_the_graph_bars(self):
        chance = random.Random(7)
        answers = []
        for words in some_words(8, 300):
            makers = tables_of(words)
            graph = graph_of(makers)
            for text in [any_word(chance, 0, 4), any_word(chance, 0, 8), any_word(chance, 10, 30)]:
                table = wide_table(text)
                answers.append(bars(makers, table, graph))
                if answers[-1]:
                    self.assertIs(signed_row(makers, table), None)
                else:
                    self.assert_made(makers, table)
        self.assertGreater(min(answers.count(True), answers.count(False)), 100)

    def test_all_that_closes_in_the_graph_is_made(self):
        # With the makers' own words closing, this shows the graph to close no more and no less than it should.
        for words in some_words(9, 200):
            makers = tables_of(words)
            for word in loops(graph_of(makers)):
                self.assert_made(makers, wide_table(word))

    def test_of_free_makers_the_row_handed_in(self):
        chance = random.Random(10)
        tried = 0
        for words in some_words(11, 300):
            makers = tables_of(words)
            row = reduced_row(any_row(chance, len(words), 12))
            if rank(makers) == len(makers):
                tried += 1
                self.assertEqual(signed_row(makers, row_made(makers, row)), row)
        self.assertGreater(tried, 20)

    def test_makers_alike_one_and_powers(self):
        for words, text in [(["u", "u"], "uuu"), (["", "u", ""], "UU"), (["uu", "uuu"], "u"), (["u" * 10, "u" * 9], "u"),
                            (["u" * 9, "u" * 7], "U"), (["u" * 6, "u" * 10, "u" * 9], "u"), (["uvuvuv", "uvuv"], "VU"),
                            (["vuuV", "vuuuV"], "vuV"), (["u", "U"], "u" * 400), (["uv"] * 8, "uv" * 200)]:
            self.assert_made(tables_of(words), wide_table(text))

    def test_tables_of_four_hundred_letters(self):
        chance = random.Random(12)
        for words in [["u", "v"], ["uv", "u"], ["uvU", "u", "vvv"], ["uvvuV", "VU", "uvu"], ["uu", "uv", "vv"]]:
            text = ""
            while len(text) < 390:
                text = reduced(text + chance.choice(words + [turned(word) for word in words]))
            self.assert_made(tables_of(words), wide_table(text))
        self.assertEqual(len(self.assert_made(tables_of(["u", "v"]), wide_table("uvUV" * 100))), 400)
        self.assertEqual(self.assert_made(tables_of(["u" * 10]), wide_table("u" * 400)), [1] * 40)

    def test_great_rows(self):
        makers = tables_of(CHAIN)
        told = self.assert_made(makers, wide_table("uvU"))
        self.assertGreater(len(told), 1000)
        self.assert_made(makers, wide_table("u" + "v" * 100 + "U"))
        self.assertIs(signed_row(makers, wide_table("u" + "v" * 100 + "u")), None)

    def test_eight_makers_of_ten_letters(self):
        chance = random.Random(13)
        for each in range(40):
            words = words_of_ten(chance)
            makers = tables_of(words)
            self.assert_made(makers, row_made(makers, any_row(chance, 8, 30)))

    def test_makers_that_make_every_wide_table(self):
        chance = random.Random(14)
        for words in [["u", "v"], ["uv", "u"], ["vvu", "vuvvu"], ["uvv", "uvvuv"], ["uuuv", "uuv"], ["uvuuv", "uv", "uuv"]]:
            makers = tables_of(words)
            self.assertEqual(graph_of(makers), [(0, 0, 0, 0)])
            for length in [1, 5, 50, 400]:
                self.assert_made(makers, wide_table(any_word(chance, length, length)))


class Relation(unittest.TestCase):
    def assert_relation(self, words):
        makers = tables_of(words)
        told = relation(makers)
        self.assertIsInstance(told, list)
        self.assertNotEqual(told, [])
        self.assertTrue(all(type(number) is int and 1 <= abs(number) <= len(makers) for number in told))
        self.assertTrue(is_reduced(told))
        self.assertEqual(multiplied(makers, told), ONE)
        self.assertEqual(row_made(makers, told), ONE)

    def test_free_makers_have_none(self):
        for words in [["u"], ["u", "v"], ["uv"], ["uu", "v", "uvU"], ["uv", "vu"], ["uu", "vv", "uv"], ["uvUV"], CHAIN,
                      ["u" * 10], ["u" * k + "v" * (10 - k) for k in range(1, 9)]]:
            self.assertIs(relation(tables_of(words)), None)

    def test_others_have_one(self):
        for words in [[""], ["u", ""], ["", ""], ["u", "u"], ["u", "U"], ["u", "uu"], ["uu", "uuu"], ["u" * 10, "u" * 9],
                      ["u", "v", "uv"], ["uv", "u", "v"], ["uu", "vv", "uv", "vu"], ["uv"] * 8, [""] * 8,
                      ["uvU", "u", "v"], ["uvUV", "u", "v"], ["uvu", "v", "uu", "uvU"], ["vuV", "vuuV"]]:
            self.assert_relation(words)

    def test_none_just_where_makers_are_free(self):
        free = 0
        for words in some_words(15, 500):
            makers = tables_of(words)
            if rank(makers) == len(makers):
                free += 1
                self.assertIs(relation(makers), None)
            else:
                self.assert_relation(words)
        self.assertGreater(min(free, 500 - free), 100)

    def test_by_all_short_rows(self):
        chance = random.Random(16)
        found = 0
        for each in range(150):
            words = [any_word(chance, 0, 4) for number in range(chance.randint(1, 3))]
            makers = tables_of(words)
            if any(multiplied(makers, row) == ONE for row in reduced_rows(len(words), 4)):
                found += 1
                self.assert_relation(words)
            elif relation(makers) is not None:
                self.assert_relation(words)
        self.assertGreater(found, 30)

    def test_with_one_put_to_them_that_they_make(self):
        chance = random.Random(17)
        for words in some_words(18, 300):
            makers = tables_of(words)
            made = row_made(makers, any_row(chance, len(words), 3))
            if len(wide_word(made)) <= 10 and len(words) < 8:
                self.assert_relation(words + [wide_word(made)])
                self.assert_relation([wide_word(made)] + words)


class Refusals(unittest.TestCase):
    def assert_refused(self, makers):
        row = [1]
        for asked in [relation, lambda makers: row_made(makers, row), lambda makers: row_made(makers, []),
                      lambda makers: signed_row(makers, wide_table("u")), lambda makers: signed_row(makers, ONE)]:
            handed = copy.deepcopy(makers)
            with self.assertRaises(NoMakers):
                asked(handed)
            self.assertEqual(handed, makers)
        self.assertEqual(row, [1])

    def test_how_many_makers(self):
        for many in [0, 9, 10, 1000]:
            self.assert_refused([wide_table("u")] * many)
            self.assert_refused([ONE] * many)

    def test_one_is_a_wide_maker(self):
        for many in range(1, 9):
            self.assertEqual(row_made([ONE] * many, [many, -1]), ONE)
            self.assertEqual(multiplied([ONE] * many, relation([ONE] * many)), ONE)
            self.assertIs(signed_row([ONE] * many, wide_table("u")), None)

    def test_a_bad_maker_at_any_place(self):
        for bad in BAD_MAKERS:
            for many in [1, 3, 8]:
                for place in range(many):
                    makers = [wide_table("uv")] * many
                    makers[place] = bad
                    self.assert_refused(makers)

    def test_things_that_are_no_makers(self):
        for thing in NO_MAKERS:
            self.assert_refused(thing)

    def test_a_table_that_is_not_wide(self):
        even = GREAT - 1
        for table in [(1, 1, 0, 1), (-1, 0, 0, -1), (0, 0, 0, 0), (1, 2, 2, 1), (1, GREAT, 0, 1), (-1, even, 0, -1),
                      (-1, 802, 0, -1), None, "u", [1, 0, 0, 1], (1, 0, 0)]:
            with self.assertRaises(NoWide):
                signed_row(tables_of(["u", "v"]), table)

    def test_a_table_that_is_too_long(self):
        even = GREAT - 1
        for table in [(1, 802, 0, 1), (1, 0, -802, 1), (1, even, 0, 1), product_of(tables_of(["uv" * 200, "u"]))]:
            for words in [["u", "v"], ["uvUV"], [""]]:
                with self.assertRaises(TooLong):
                    signed_row(tables_of(words), table)

    def test_several_faults_at_once(self):
        for table in [(1, 1, 0, 1), (-1, 0, 0, -1), (1, 802, 0, 1), (1, GREAT - 1, 0, 1), (1, GREAT, 0, 1)]:
            for makers in [[], [ONE] * 9] + [[wide_table("u"), bad] for bad in BAD_MAKERS]:
                with self.assertRaises(NoMakers):
                    signed_row(makers, table)


class Lists(unittest.TestCase):
    def test_what_is_handed_in_is_as_it_was(self):
        for words in [["uv", "v", "", "uv"], ["u", "v"]]:
            makers, row = tables_of(words), [1, -2, 2, 1]
            row_made(makers, row)
            relation(makers)
            signed_row(makers, wide_table("uuv"))
            for table in [(1, 1, 0, 1), (1, 802, 0, 1)]:
                with self.assertRaises((NoWide, TooLong)):
                    signed_row(makers, table)
            self.assertEqual(makers, tables_of(words))
            self.assertEqual(row, [1, -2, 2, 1])

    def test_a_told_row_is_the_askers_own(self):
        makers = tables_of(["uu", "uuu", "v"])
        for asked in [relation, lambda makers: signed_row(makers, wide_table("u")), lambda makers: signed_row(makers, ONE),
                      lambda makers: signed_row(makers, wide_table("v"))]:
            first = asked(makers)
            kept = list(first)
            again = asked(makers)
            self.assertIsNot(first, again)
            first.append(7)
            first[0] = 9
            self.assertEqual(again, kept)
            self.assertEqual(asked(makers), kept)
            self.assertEqual(makers, tables_of(["uu", "uuu", "v"]))

    def test_makers_changed_later_change_no_told_row(self):
        makers = tables_of(["uv", "v"])
        told = signed_row(makers, wide_table("u"))
        makers.clear()
        self.assertEqual(told, [1, -2])


if __name__ == "__main__":
    unittest.main()
