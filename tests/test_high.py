"""high: ordinary tables, whose answers are written here, and others held against lines that are written out."""

import itertools
import random
import unittest

from cellwidths.columns import high
from tables import LARGEST, as_table, high_by_lines, random_rows


class WrittenAnswers(unittest.TestCase):
    def check(self, rows, answers):
        for widths, answer in answers:
            with self.subTest(widths=widths):
                self.assertEqual(high(widths, as_table(rows)), answer)

    def test_one_column(self):
        self.check([["the quick fox"]], [
            ([4], [-33]), ([5], [3, 9]), ([8], [3, 12]), ([9], [2, 13]), ([12], [2, 16]), ([13], [1, 17]),
            ([14], [1, 18]), ([100], [1, 104]),
        ])

    def test_one_column_of_several_rows(self):
        self.check([["aa bb cc"], ["dd"], ["e f g h"]], [
            ([1], [-33]), ([2], [8, 6]), ([3], [6, 7]), ([4], [6, 8]), ([5], [5, 9]), ([7], [4, 11]), ([8], [3, 12]),
        ])

    def test_two_columns(self):
        self.check([["red green blue", "one two"], ["a b", "c"]], [
            ([5, 3], [4, 15]), ([9, 3], [3, 19]), ([9, 7], [3, 23]), ([13, 7], [3, 27]), ([14, 6], [3, 27]),
            ([14, 7], [2, 28]), ([4, 7], [-33]), ([14, 2], [-33]), ([4, 2], [-33]),
        ])

    def test_three_columns(self):
        self.check([["ab cd", "e", "fgh ij"], ["k", "lm no pq", "r s"]], [
            ([2, 2, 3], [5, 17]), ([2, 5, 3], [4, 20]), ([2, 8, 3], [3, 23]), ([5, 8, 6], [2, 29]),
            ([5, 2, 6], [4, 23]), ([1, 8, 6], [-33]), ([5, 1, 6], [-33]), ([5, 8, 2], [-33]),
        ])

    def test_four_columns(self):
        self.check([["a b", "c d", "e f", "g h"], ["i", "jk", "l", "m n"]], [
            ([1, 2, 1, 1], [4, 18]), ([1, 2, 1, 3], [3, 20]), ([3, 3, 3, 3], [2, 25]), ([3, 3, 3, 1], [4, 23]),
            ([9, 8, 7, 6], [2, 43]), ([3, 1, 3, 3], [-33]), ([3, 3, 3, 0], [-33]),
        ])

    def test_cells_stand_row_by_row(self):
        self.check([["abcdef", "x"], ["y", "z"]], [([6, 1], [2, 14]), ([1, 6], [-33])])
        self.check([["a", "b", "c"], ["d", "e", "fghi"]], [([1, 1, 4], [2, 16]), ([4, 1, 1], [-33])])

    def test_rows_that_are_high_by_two_cells(self):
        self.check([["a b c", "d e f"]], [
            ([1, 1], [3, 9]), ([1, 3], [3, 11]), ([3, 1], [3, 11]), ([3, 3], [2, 13]), ([5, 3], [2, 15]),
            ([3, 5], [2, 15]), ([5, 5], [1, 17]),
        ])
        self.check([["a b", "c", "d e"], ["f", "g h i", "j k l"]], [
            ([1, 1, 1], [5, 13]), ([3, 1, 1], [5, 15]), ([3, 5, 1], [5, 19]), ([3, 5, 5], [2, 23]),
        ])

    def test_a_row_is_as_high_as_its_highest_cell(self):
        self.check([["a b", "c d e f"], ["g h i", "j"]], [([1, 1], [7, 9]), ([1, 7], [5, 15]), ([5, 1], [5, 13])])

    def test_a_line_is_filled_up_to_the_width_itself(self):
        self.check([["ab cd ef"]], [([4], [3, 8]), ([5], [2, 9]), ([7], [2, 11]), ([8], [1, 12])])

    def test_a_line_takes_words_as_they_come(self):
        self.check([["aaa b cccc d"]], [([4], [4, 8]), ([5], [3, 9]), ([6], [2, 10]), ([11], [2, 15]), ([12], [1, 16])])

    def test_signs_other_than_blanks_part_no_words(self):
        self.check([["a-b!c~d,e"]], [([8], [-33]), ([9], [1, 13])])

    def test_widths_far_wider_than_any_cell_needs(self):
        rows = [["aa bb", "c d e"], ["f", ""]]
        self.check(rows, [
            ([1000, 1000], [2, 2007]), ([LARGEST, 1], [4, 4294967303]), ([2, LARGEST], [3, 4294967304]),
            ([LARGEST, LARGEST], [2, 8589934597]),
        ])
        self.check([["a b"]], [([LARGEST], [1, 4294967299])])
        self.check([["a b"] * 4] * 6, [([LARGEST] * 4, [6, 17179869193])])

    def test_a_narrow_width_is_refused_beside_wide_ones(self):
        rows = [["ab", "ab", "ab", "ab"]]
        for narrow in range(4):
            widths = [LARGEST] * 4
            widths[narrow] = 1
            self.check(rows, [(widths, [-33])])


class EveryLine(unittest.TestCase):
    def check(self, rows, widths):
        with self.subTest(rows=rows, widths=widths):
            self.assertEqual(high(list(widths), as_table(rows)), high_by_lines(rows, widths))

    def test_every_cell_of_six_signs(self):
        for size in range(7):
            for signs in itertools.product("a ", repeat=size):
                for width in range(9):
                    self.check([["".join(signs)]], [width])

    def test_every_pair_of_cells_in_a_row(self):
        texts = ["", " ", "a", "ab", "a b", "a bc", "ab c", "a b c"]
        for pair in itertools.product(texts, repeat=2):
            for widths in itertools.product(range(7), repeat=2):
                self.check([list(pair)], widths)

    def test_tables_of_each_number_of_columns(self):
        chance = random.Random(20261116)
        for columns in (1, 2, 3, 4):
            for turn in range(100):
                rows = random_rows(chance, columns, chance.randint(0, 6), 24)
                for least in (0, 3, 8, 12):
                    self.check(rows, [chance.randint(least, 26) for column in range(columns)])


if __name__ == "__main__":
    unittest.main()
