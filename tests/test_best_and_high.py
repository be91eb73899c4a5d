"""What the document promises over the whole program: best and high held against one another."""

import itertools
import random
import unittest

from cellwidths.columns import best, high
from tables import LARGEST, as_table, random_rows


def tables_of(seed, count, size):
    """Tables of each number of columns and of rows, without rows too."""
    chance = random.Random(seed)
    tables = []
    for turn in range(count):
        columns = 1 + turn % 4
        tables.append((columns, random_rows(chance, columns, chance.randint(0, 6), size)))
    return tables


EDGES = (
    (1, []),
    (4, []),
    (1, [["the quick fox"]]),
    (2, [["", "ab c"], ["", "d"]]),
    (2, [["x" * 24, "a b"], ["c d", ""]]),
    (2, [["a b c", "d e f"]]),
    (3, [["a b", "c d", "e"], ["f", "g", "h i"]]),
    (4, [["a b", "", "", ""], ["", "a b", "", ""], ["", "", "a b", ""], ["", "", "", "a b"]]),
    (4, [["", " ", "  ", "   "]] * 6),
    (4, [["a b c d e f g h i j k l "] * 4] * 6),
)


class BestHeldAgainstHigh(unittest.TestCase):
    def test_high_answers_the_same_of_the_widths_that_best_answers(self):
        for columns, rows in list(EDGES) + tables_of(11, 80, 24):
            table = as_table(rows)
            for most in list(range(4 * columns, 28 * columns + 2, 3)) + [LARGEST]:
                answer = best(columns, most, table)
                if answer == [-33]:
                    continue
                with self.subTest(rows=rows, most=most):
                    height, wide = high(answer[1:], table)
                    self.assertEqual(height, answer[0])
                    self.assertLessEqual(wide, most)

    def test_room_just_met(self):
        for columns, rows in list(EDGES) + tables_of(12, 80, 24):
            table = as_table(rows)
            answer = best(columns, LARGEST, table)
            wide = high(answer[1:], table)[1]
            with self.subTest(rows=rows):
                self.assertEqual(best(columns, wide, table), answer)
                less = best(columns, wide - 1, table)
                self.assertTrue(less == [-33] or less[0] > answer[0], less)

    def test_no_widths_are_lower_or_as_low_and_ahead(self):
        sizes = {1: 12, 2: 9, 3: 6, 4: 4}
        for columns, rows in tables_of(13, 60, 6):
            table = as_table(rows)
            ranks = []
            for widths in itertools.product(range(sizes[columns] + 1), repeat=columns):
                found = high(list(widths), table)
                if found != [-33]:
                    ranks.append((found[0], found[1], list(widths)))
            # Each other column takes 1 at least, so no width within such a most goes beyond those tried.
            for most in range(4 * columns, 4 * columns + sizes[columns] + 1):
                within = [rank for rank in ranks if rank[1] <= most]
                answer = best(columns, most, table)
                with self.subTest(rows=rows, most=most):
                    if not within:
                        self.assertEqual(answer, [-33])
                    else:
                        height, wide, widths = min(within)
                        self.assertEqual(answer, [height] + widths)

    def test_no_widths_near_the_best_are_lower_or_as_low_and_ahead(self):
        for columns, rows in list(EDGES) + tables_of(14, 60, 24):
            table = as_table(rows)
            for most in (10 * columns, 15 * columns, 21 * columns):
                answer = best(columns, most, table)
                if answer == [-33]:
                    continue
                rank = (answer[0], high(answer[1:], table)[1], answer[1:])
                for steps in itertools.product((-2, -1, 0, 1, 2), repeat=columns):
                    widths = [max(0, width + step) for width, step in zip(answer[1:], steps)]
                    found = high(widths, table)
                    if found != [-33] and found[1] <= most:
                        self.assertLessEqual(rank, (found[0], found[1], widths))

    def test_told_that_there_are_none_there_are_none(self):
        for columns, rows in list(EDGES) + tables_of(15, 40, 24):
            table = as_table(rows)
            least = 0
            while best(columns, least, table) == [-33]:
                least = least + 1
            widths = best(columns, least, table)[1:]
            with self.subTest(rows=rows):
                self.assertEqual(high(widths, table)[1], least)
                for column in range(columns):
                    narrower = list(widths)
                    narrower[column] = narrower[column] - 1
                    self.assertEqual(high(narrower, table), [-33])


class MoreRoomAndOtherOrders(unittest.TestCase):
    def test_with_more_room_best_is_never_higher(self):
        for columns, rows in list(EDGES) + tables_of(16, 40, 24):
            table = as_table(rows)
            before = [-33]
            for most in list(range(0, 27 * columns + 3)) + [LARGEST]:
                answer = best(columns, most, table)
                if before != [-33]:
                    self.assertTrue(0 <= answer[0] <= before[0], (rows, most))
                before = answer
            self.assertEqual(before[0], len(rows))

    def test_with_a_wider_column_high_is_never_higher(self):
        for columns, rows in list(EDGES) + tables_of(17, 40, 24):
            table = as_table(rows)
            for column in range(columns):
                before = [-33]
                for width in range(0, 27):
                    widths = [24] * columns
                    widths[column] = width
                    answer = high(widths, table)
                    if before != [-33]:
                        self.assertTrue(0 <= answer[0] <= before[0], (rows, widths))
                        self.assertEqual(answer[1], before[1] + 1)
                    before = answer

    def test_rows_in_another_order_have_the_same_widths(self):
        for columns, rows in list(EDGES) + tables_of(18, 40, 24):
            for most in (9 * columns, 14 * columns, 20 * columns):
                answer = best(columns, most, as_table(rows))
                widths = [most // columns - 3] * columns
                found = high(widths, as_table(rows))
                for turn in range(len(rows)):
                    for other in (rows[turn:] + rows[:turn], (rows[turn:] + rows[:turn])[::-1]):
                        self.assertEqual(best(columns, most, as_table(other)), answer)
                        self.assertEqual(high(widths, as_table(other)), found)


class OneCallBehindAnother(unittest.TestCase):
    def test_neither_call_is_changed_by_the_other(self):
        table = as_table([["red green blue", "one two"], [" a  b ", ""]])
        for turn in range(3):
            self.assertEqual(best(2, 19, table), [3, 9, 3])
            self.assertEqual(high([9, 3], table), [3, 19])
            self.assertEqual(high([9, 2], table), [-33])
            self.assertEqual(best(2, 14, table), [-33])
            self.assertEqual(high([14, 7], table), [2, 28])
            self.assertEqual(high([1, 1, 1, 1, 1], as_table([["a"] * 5])), [-71])


if __name__ == "__main__":
    unittest.main()
