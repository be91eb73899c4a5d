"""best: ordinary tables, whose answers are written here, and small ones held against a look at all widths."""

import itertools
import random
import unittest

from cellwidths.columns import best
from tables import as_table, best_by_trial, height_with, random_rows, wide


class WrittenAnswers(unittest.TestCase):
    def check(self, columns, rows, answers):
        for most, answer in answers:
            with self.subTest(most=most):
                self.assertEqual(best(columns, most, as_table(rows)), answer)

    def test_one_column(self):
        rows = [["the quick fox"]]
        self.check(1, rows, [
            (8, [-33]), (9, [3, 5]), (12, [3, 5]), (13, [2, 9]), (16, [2, 9]), (17, [1, 13]), (18, [1, 13]),
        ])

    def test_one_column_of_several_rows(self):
        rows = [["aa bb cc"], ["dd"], ["e f g h"]]
        self.check(1, rows, [
            (5, [-33]), (6, [8, 2]), (7, [6, 3]), (8, [6, 3]), (9, [5, 5]),
            (10, [5, 5]), (11, [4, 7]), (12, [3, 8]), (99, [3, 8]),
        ])

    def test_two_columns(self):
        rows = [["red green blue", "one two"], ["a b", "c"]]
        self.check(2, rows, [
            (14, [-33]), (15, [4, 5, 3]), (18, [4, 5, 3]), (19, [3, 9, 3]), (22, [3, 9, 3]),
            (23, [3, 9, 3]), (27, [3, 9, 3]), (28, [2, 14, 7]), (1000, [2, 14, 7]),
        ])

    def test_three_columns(self):
        rows = [["ab cd", "e", "fgh ij"], ["k", "lm no pq", "r s"]]
        self.check(3, rows, [
            (16, [-33]), (17, [5, 2, 2, 3]), (19, [5, 2, 2, 3]), (20, [4, 2, 5, 3]), (25, [3, 2, 8, 3]),
            (26, [3, 2, 8, 3]), (28, [3, 2, 8, 3]), (29, [2, 5, 8, 6]), (500, [2, 5, 8, 6]),
        ])

    def test_four_columns(self):
        rows = [["a b", "c d", "e f", "g h"], ["i", "jk", "l", "m n"]]
        self.check(4, rows, [
            (17, [-33]), (18, [4, 1, 2, 1, 1]), (19, [4, 1, 2, 1, 1]), (20, [3, 1, 2, 1, 3]),
            (24, [3, 1, 2, 1, 3]), (25, [2, 3, 3, 3, 3]), (80, [2, 3, 3, 3, 3]),
        ])

    def test_a_line_is_filled_up_to_the_width_itself(self):
        self.check(1, [["ab cd ef"]], [(8, [3, 2]), (9, [2, 5]), (12, [1, 8])])

    def test_signs_other_than_blanks_part_no_words(self):
        self.check(1, [["a-b!c~d,e"]], [(12, [-33]), (13, [1, 9])])


class AllWidths(unittest.TestCase):
    def check(self, columns, rows, mosts):
        table = as_table(rows)
        for most in mosts:
            with self.subTest(rows=rows, most=most):
                self.assertEqual(best(columns, most, table), best_by_trial(columns, most, rows))

    def test_every_cell_of_five_signs(self):
        for size in range(6):
            for signs in itertools.product("a ", repeat=size):
                self.check(1, [["".join(signs)]], range(0, 12))

    def test_every_pair_of_cells_in_a_row(self):
        texts = ["", " ", "a", "ab", "a b", "a bc", "ab c", "a b c"]
        for pair in itertools.product(texts, repeat=2):
            self.check(2, [list(pair)], range(6, 20))

    def test_every_two_rows_of_one_column(self):
        texts = ["", "a", "a b", "ab c", "a b c", "a b c d"]
        for pair in itertools.product(texts, repeat=2):
            self.check(1, [[text] for text in pair], range(3, 14))

    def test_small_tables_of_each_number_of_columns(self):
        chance = random.Random(20261116)
        sizes = {1: 24, 2: 16, 3: 10, 4: 7}
        for columns in (1, 2, 3, 4):
            for turn in range(60):
                rows = random_rows(chance, columns, chance.randint(0, 6), sizes[columns])
                self.check(columns, rows, [chance.randint(3 * columns, 8 * columns + 16), 200])


class WhatHolds(unittest.TestCase):
    def setUp(self):
        chance = random.Random(7)
        self.tables = []
        for turn in range(60):
            columns = chance.randint(1, 4)
            self.tables.append((columns, random_rows(chance, columns, chance.randint(1, 6), 24)))

    def test_what_is_answered_may_be_and_is_as_high_as_told(self):
        for columns, rows in self.tables:
            for most in range(4 * columns, 30 * columns, 5):
                answer = best(columns, most, as_table(rows))
                if answer != [-33]:
                    self.assertEqual(len(answer), columns + 1)
                    self.assertLessEqual(wide(answer[1:]), most)
                    self.assertEqual(height_with(rows, answer[1:]), answer[0])

    def test_with_more_room_it_is_never_higher(self):
        for columns, rows in self.tables:
            table = as_table(rows)
            before = [-33]
            for most in range(0, 27 * columns + 2):
                answer = best(columns, most, table)
                if before != [-33]:
                    self.assertGreaterEqual(answer[0], 0)
                    self.assertLessEqual(answer[0], before[0])
                before = answer
            self.assertEqual(before[0], len(rows))

    def test_rows_in_another_order_have_the_same_widths(self):
        for columns, rows in self.tables:
            for most in (12 * columns, 16 * columns, 20 * columns):
                answer = best(columns, most, as_table(rows))
                for turn in range(1, len(rows)):
                    turned = rows[turn:] + rows[:turn]
                    self.assertEqual(best(columns, most, as_table(turned)), answer)
                self.assertEqual(best(columns, most, as_table(rows[::-1])), answer)


if __name__ == "__main__":
    unittest.main()
