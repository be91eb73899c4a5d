"""high: the edges that the document names, wrong inputs, and what a call leaves as it was."""

import contextlib
import io
import itertools
import unittest

from cellwidths.columns import high
from tables import LARGEST, Unchanged, as_table, high_by_lines


class Edges(unittest.TestCase):
    def check(self, widths, rows, answer):
        with self.subTest(widths=widths, rows=rows):
            self.assertEqual(high(widths, as_table(rows)), answer)
            self.assertEqual(high_by_lines(rows, widths), answer)

    def test_a_column_of_empty_cells(self):
        self.check([1], [[""], [""]], [2, 5])
        self.check([7], [[""], [""]], [2, 11])
        self.check([0], [[""], [""]], [-33])
        self.check([1, 4], [["", "ab c"], ["", "d"]], [2, 12])
        self.check([1, 2], [["", "ab c"], ["", "d"]], [3, 10])
        self.check([0, 4], [["", "ab c"], ["", "d"]], [-33])
        self.check([4, 0], [["ab c", ""], ["d", ""]], [-33])
        self.check([1, 1, 1, 1], [["", "", "", ""]], [1, 17])

    def test_cells_of_blanks_alone(self):
        self.check([1], [["   "]], [1, 5])
        self.check([0], [["   "]], [-33])
        self.check([1], [[" " * 24]] * 6, [6, 5])
        self.check([2, 3], [[" ", "a b"], ["  ", ""]], [2, 12])
        self.check([2, 1], [[" ", "a b"], ["  ", ""]], [3, 10])

    def test_blanks_first_and_last(self):
        self.check([2], [["  ab"]], [1, 6])
        self.check([2], [["ab  "]], [1, 6])
        self.check([4], [["  ab c  "]], [1, 8])
        self.check([3], [["  ab c  "]], [2, 7])
        self.check([1], [["  ab c  "]], [-33])
        self.check([1], [[" " * 23 + "a"]], [1, 5])
        self.check([1], [["a" + " " * 23]], [1, 5])

    def test_several_blanks_between_words(self):
        self.check([3], [["a    b"]], [1, 7])
        self.check([2], [["a    b"]], [2, 6])
        self.check([5], [["a  b   c"]], [1, 9])
        self.check([4], [["a  b   c"]], [2, 8])
        self.check([1], [["a" + " " * 22 + "b"]], [2, 5])
        self.check([3], [["a" + " " * 22 + "b"]], [1, 7])

    def test_a_word_as_long_as_a_cell(self):
        word = "x" * 24
        self.check([24], [[word]], [1, 28])
        self.check([25], [[word]], [1, 29])
        self.check([23], [[word]], [-33])
        self.check([24, 3], [[word, "a b"], ["c d", ""]], [2, 34])
        self.check([24, 1], [[word, "a b"], ["c d", ""]], [3, 32])
        self.check([23, 3], [[word, "a b"], ["c d", ""]], [-33])
        self.check([24, 24, 24, 24], [[word] * 4] * 6, [6, 109])
        self.check([24, 24, 24, 23], [[word] * 4] * 6, [-33])

    def test_a_width_of_the_longest_word_and_one_less(self):
        for words in ("abc", "a abc", "abc a", " a abc a "):
            self.assertGreater(high([3], as_table([[words]]))[0], 0)
            self.check([2], [[words]], [-33])
        self.check([5], [["a b c"], ["lemon"]], [2, 9])
        self.check([4], [["a b c"], ["lemon"]], [-33])
        self.check([5], [["lemon"], ["a b c"]], [2, 9])
        self.check([4], [["lemon"], ["a b c"]], [-33])
        for column in range(4):
            row = ["a"] * 4
            row[column] = "abc"
            widths = [1] * 4
            widths[column] = 3
            self.check(widths, [["", "", "", ""], row], [2, 19])
            widths[column] = 2
            self.check(widths, [["", "", "", ""], row], [-33])

    def test_a_width_of_0(self):
        for columns in (1, 2, 3, 4):
            for at in range(columns):
                widths = [9] * columns
                widths[at] = 0
                self.check(widths, [], [-33])
                self.check(widths, [[""] * columns] * 6, [-33])
                self.check(widths, [["   "] * columns], [-33])
                self.check(widths, [["a b"] * columns], [-33])

    def test_no_rows(self):
        for columns in (1, 2, 3, 4):
            self.check([1] * columns, [], [0, 4 * columns + 1])
            self.check([20] * columns, [], [0, 23 * columns + 1])
            self.check([LARGEST] * columns, [], [0, (LARGEST + 3) * columns + 1])

    def test_widths_alike_in_all_but_one(self):
        rows = [["a b", "c d", "e f", "g h"]]
        self.check([3, 3, 3, 3], rows, [1, 25])
        for column in range(4):
            widths = [3, 3, 3, 3]
            widths[column] = 2
            self.check(widths, rows, [2, 24])

    def test_every_cell_of_twelve_words(self):
        rows = [["a b c d e f g h i j k l "] * 4] * 6
        self.check([1, 1, 1, 1], rows, [72, 17])
        self.check([23, 23, 23, 1], rows, [72, 83])
        self.check([3, 5, 11, 23], rows, [36, 55])
        self.check([22, 23, 23, 23], rows, [12, 104])
        self.check([23, 23, 23, 23], rows, [6, 105])


class NotAsTold(unittest.TestCase):
    def refused(self, columns, table):
        for width in (0, 1, 2, 24, 300, LARGEST):
            with self.subTest(columns=columns, width=width):
                self.assertEqual(high([width] * columns, list(table)), [-71])
        mixed = [0, LARGEST, 1, 30]
        self.assertEqual(high((mixed * columns)[:columns], list(table)), [-71])

    def test_no_widths(self):
        self.refused(0, [])
        self.refused(0, [1, 97])
        self.refused(0, [0, 0, 0, 2, 97, 98, 0])
        self.refused(0, [0] * 4000)

    def test_more_widths_than_four(self):
        for columns in (5, 6, 39, 40):
            self.refused(columns, [])
            self.refused(columns, as_table([["a"] * columns]))
            self.refused(columns, as_table([["a"] * columns] * 6))

    def test_seven_rows(self):
        for columns in (1, 2, 3, 4):
            for text in ("a", "", " "):
                self.refused(columns, as_table([[text] * columns] * 7))
                self.assertEqual(high([1] * columns, as_table([[text] * columns] * 6)), [6, 4 * columns + 1])

    def test_long_cells(self):
        for size in (25, 26, 255):
            for cell in ("x" * size, " " * size, ("x " * size)[:size]):
                self.refused(1, as_table([[cell]]))
                self.refused(2, as_table([["a", "b"], ["c", cell]]))
                self.refused(4, as_table([[cell, "", "", ""]]))
        self.assertEqual(high([24], as_table([["x" * 24]])), [1, 28])

    def test_bytes_out_of_range(self):
        for byte in (0, 9, 10, 31, 127, 128, 160, 255):
            self.refused(1, [1, byte])
            self.refused(1, [3, 97, byte, 98])
            self.refused(1, [2, byte, 32])
            self.refused(2, [1, 97, 0, 0, 2, 98, byte])

    def test_bytes_at_the_ends_of_the_range(self):
        self.assertEqual(high([3], [3, 33, 126, 33]), [1, 7])
        self.assertEqual(high([3], [3, 126, 32, 126]), [1, 7])
        self.assertEqual(high([2], [3, 126, 32, 33]), [2, 6])
        for byte in range(33, 127):
            self.assertEqual(high([1], [1, byte]), [1, 5])
            self.assertEqual(high([1], [2, byte, byte]), [-33])

    def test_near_four_thousand_numbers(self):
        self.refused(1, [0] * 4000)
        self.refused(40, [0] * 4000)
        self.refused(4, as_table([["a b c d e f g h i j k l "] * 4] * 40))
        self.refused(3, ([255] + [97] * 255) * 15)


class LeftAsItWas(unittest.TestCase):
    calls = (
        ([9, 3], as_table([["red green blue", "one two"], [" a  b ", ""]])),
        ([14, 7], as_table([["red green blue", "one two"], [" a  b ", ""]])),
        ([14, 2], as_table([["red green blue", "one two"], [" a  b ", ""]])),
        ([5, LARGEST, 1, 3], as_table([["a b c", "d e", "f", "g h i j"]] * 6)),
        ([3, 2, 1, 0], as_table([["a b c", "d e", "f", "g h i j"]] * 6)),
        ([1], as_table([["a"]] * 7)),
        ([1] * 5, as_table([["a"] * 5])),
        ([], [1, 97]),
        ([2, 1, 3], []),
    )

    def test_what_is_handed_in_is_not_changed(self):
        for widths, table in self.calls:
            handed_widths = Unchanged(widths)
            handed_table = Unchanged(table)
            high(handed_widths, handed_table)
            self.assertEqual((list(handed_widths), list(handed_table)), (widths, table))

    def test_plain_lists_are_as_they_were_behind_the_call(self):
        for widths, table in self.calls:
            handed_widths = list(widths)
            handed_table = list(table)
            high(handed_widths, handed_table)
            self.assertEqual((handed_widths, handed_table), (widths, table))

    def test_a_second_call_answers_as_the_first(self):
        first = [high(list(widths), list(table)) for widths, table in self.calls]
        for one, other in itertools.product(range(len(self.calls)), repeat=2):
            for at in (one, other, one):
                widths, table = self.calls[at]
                answer = high(list(widths), list(table))
                self.assertEqual(answer, first[at])
                answer.append(1)
                answer[0] = 99

    def test_the_same_lists_may_be_handed_in_again_with_other_numbers(self):
        widths = [3]
        table = [3, 97, 32, 98]
        self.assertEqual(high(widths, table), [1, 7])
        widths[0] = 2
        self.assertEqual(high(widths, table), [2, 6])
        table[2] = 99
        self.assertEqual(high(widths, table), [-33])

    def test_the_answer_is_a_list_of_whole_numbers(self):
        for widths, table in self.calls:
            answer = high(list(widths), list(table))
            self.assertIs(type(answer), list)
            self.assertEqual(len(answer), 2 if answer[0] >= 0 else 1)
            for number in answer:
                self.assertIs(type(number), int)

    def test_the_arguments_are_named_as_told(self):
        self.assertEqual(high(widths=[3], table=[3, 97, 32, 98]), [1, 7])

    def test_nothing_is_printed(self):
        out = io.StringIO()
        err = io.StringIO()
        with contextlib.redirect_stdout(out), contextlib.redirect_stderr(err):
            for widths, table in self.calls:
                high(list(widths), list(table))
        self.assertEqual((out.getvalue(), err.getvalue()), ("", ""))


if __name__ == "__main__":
    unittest.main()
