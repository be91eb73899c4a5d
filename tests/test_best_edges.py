"""best: the edges that the document names, the largest that may be handed in, and what a call leaves as it was."""

import contextlib
import io
import itertools
import unittest

from cellwidths.columns import best
from tables import LARGEST, Unchanged, as_table, best_by_trial


class Edges(unittest.TestCase):
    def check(self, columns, most, rows, answer):
        self.assertEqual(best(columns, most, as_table(rows)), answer)
        self.assertEqual(best_by_trial(columns, min(most, 200), rows), answer)

    def test_a_column_of_empty_cells(self):
        self.check(1, 5, [[""], [""]], [2, 1])
        self.check(1, 4, [[""], [""]], [-33])
        self.check(2, 50, [["", "ab c"], ["", "d"]], [2, 1, 4])
        self.check(2, 12, [["ab c", ""], ["d", ""]], [2, 4, 1])
        self.check(2, 11, [["ab c", ""], ["d", ""]], [3, 2, 1])
        self.check(4, 99, [["", "", "", ""]], [1, 1, 1, 1, 1])

    def test_cells_of_blanks_alone(self):
        self.check(1, 5, [["   "]], [1, 1])
        self.check(1, 5, [[" " * 24]] * 6, [6, 1])
        self.check(2, 99, [[" ", "a b"], ["  ", ""]], [2, 1, 3])

    def test_blanks_first_and_last(self):
        self.check(1, 99, [["  ab"]], [1, 2])
        self.check(1, 99, [["ab  "]], [1, 2])
        self.check(1, 99, [["  ab c  "]], [1, 4])
        self.check(1, 7, [["  ab c  "]], [2, 2])

    def test_several_blanks_between_words(self):
        self.check(1, 99, [["a    b"]], [1, 3])
        self.check(1, 6, [["a    b"]], [2, 1])
        self.check(1, 99, [["a  b   c"]], [1, 5])
        self.check(1, 8, [["a  b   c"]], [2, 3])

    def test_a_word_as_long_as_a_cell(self):
        word = "x" * 24
        self.check(1, 28, [[word]], [1, 24])
        self.check(1, 27, [[word]], [-33])
        self.check(2, 34, [[word, "a b"], ["c d", ""]], [2, 24, 3])
        self.check(2, 33, [[word, "a b"], ["c d", ""]], [3, 24, 1])
        self.check(4, 109, [[word] * 4] * 6, [6, 24, 24, 24, 24])
        self.check(4, 108, [[word] * 4] * 6, [-33])

    def test_a_longest_word_sets_the_width_of_other_cells(self):
        self.check(1, 9, [["a b c"], ["lemon"]], [2, 5])
        self.check(1, 99, [["a b c d"], ["lemon"]], [2, 7])
        self.check(1, 10, [["a b c d"], ["lemon"]], [3, 5])

    def test_room_just_met_and_one_less(self):
        rows = [["aa bb", "cc dd"]]
        self.check(2, 17, rows, [1, 5, 5])
        self.check(2, 16, rows, [2, 2, 2])
        self.check(2, 11, rows, [2, 2, 2])
        self.check(2, 10, rows, [-33])

    def test_rows_that_are_high_by_two_cells(self):
        rows = [["a b c", "d e f"]]
        self.check(2, 9, rows, [3, 1, 1])
        self.check(2, 11, rows, [3, 1, 1])
        self.check(2, 12, rows, [3, 1, 1])
        self.check(2, 13, rows, [2, 3, 3])
        self.check(2, 16, rows, [2, 3, 3])
        self.check(2, 17, rows, [1, 5, 5])

    def test_a_row_is_as_high_as_its_highest_cell(self):
        self.check(2, 99, [["a b", "long"], ["c", "d e f g"]], [2, 3, 7])
        self.check(3, 16, [["a b", "c d", "e"], ["f", "g", "h i"]], [3, 1, 1, 3])

    def test_no_rows(self):
        for columns in (1, 2, 3, 4):
            self.check(columns, 4 * columns + 1, [], [0] + [1] * columns)
            self.check(columns, LARGEST, [], [0] + [1] * columns)
            self.check(columns, 4 * columns, [], [-33])

    def test_widths_alike_in_all_but_one(self):
        rows = [["a b", "c d", "e f", "g h"]]
        self.check(4, 24, rows, [2, 1, 1, 1, 1])
        self.check(4, 25, rows, [1, 3, 3, 3, 3])
        rows = [["a", "a", "a", "a b"]]
        self.check(4, 19, rows, [1, 1, 1, 1, 3])
        self.check(4, 18, rows, [2, 1, 1, 1, 1])

    def test_of_widths_as_narrow_the_first_that_differs_is_narrower(self):
        rows = [["a b", "c"], ["d", "e f"]]
        self.check(2, 11, rows, [3, 1, 3])
        self.check(2, 13, rows, [2, 3, 3])
        corner = [["a b", "", "", ""], ["", "a b", "", ""], ["", "", "a b", ""], ["", "", "", "a b"]]
        self.check(4, 19, corner, [7, 1, 1, 1, 3])
        self.check(4, 21, corner, [6, 1, 1, 3, 3])
        self.check(4, 23, corner, [5, 1, 3, 3, 3])

    def test_a_narrower_total_goes_ahead_of_a_narrower_first_column(self):
        rows = [["a b", ""], ["", "cd efg"]]
        self.check(2, 13, rows, [3, 3, 3])
        self.check(2, 14, rows, [3, 3, 3])
        rows = [["a b c", "d"], ["e", "fg h"]]
        self.check(2, 13, rows, [4, 1, 4])
        self.check(2, 14, rows, [3, 3, 4])

    def test_lower_goes_ahead_of_narrower(self):
        self.check(1, LARGEST, [["a b c d e f g h i j k l"]], [1, 23])


class Refusals(unittest.TestCase):
    mosts = (0, 1, 17, 60, LARGEST)

    def not_as_told(self, columns, table):
        for most in self.mosts:
            with self.subTest(columns=columns, most=most):
                self.assertEqual(best(columns, most, list(table)), [-71])

    def test_columns(self):
        for columns in (0, 5, 6, 40, LARGEST):
            self.not_as_told(columns, [])
        self.not_as_told(0, [1, 97])
        self.not_as_told(0, [0, 0, 0, 2, 97, 98, 0])
        self.not_as_told(5, as_table([["a"] * 5]))
        self.not_as_told(5, as_table([["a"] * 5] * 6))

    def test_seven_rows(self):
        for columns in (1, 2, 3, 4):
            self.not_as_told(columns, as_table([["a"] * columns] * 7))
            self.not_as_told(columns, as_table([[""] * columns] * 7))
            self.assertEqual(best(columns, 99, as_table([["a"] * columns] * 6)), [6] + [1] * columns)

    def test_long_cells(self):
        for size in (25, 26, 255):
            for cell in ("x" * size, " " * size, ("x " * size)[:size]):
                self.not_as_told(1, as_table([[cell]]))
                self.not_as_told(2, as_table([["a", "b"], ["c", cell]]))
        self.assertEqual(best(1, 99, as_table([["x" * 24]])), [1, 24])

    def test_bytes_out_of_range(self):
        for byte in (0, 9, 10, 31, 127, 128, 160, 255):
            self.not_as_told(1, [1, byte])
            self.not_as_told(1, [3, 97, byte, 98])
            self.not_as_told(2, [1, 97, 0, 0, 2, 98, byte])

    def test_bytes_at_the_ends_of_the_range(self):
        self.assertEqual(best(1, 99, [3, 33, 126, 33]), [1, 3])
        self.assertEqual(best(1, 99, [3, 126, 32, 126]), [1, 3])
        self.assertEqual(best(1, 6, [3, 126, 32, 33]), [2, 1])
        for byte in range(33, 127):
            self.assertEqual(best(1, 99, [1, byte]), [1, 1])

    def test_no_room(self):
        for columns in (1, 2, 3, 4):
            table = as_table([["ab"] * columns])
            for most in range(0, 5 * columns + 1):
                self.assertEqual(best(columns, most, table), [-33])
            self.assertEqual(best(columns, 5 * columns + 1, table), [1] + [2] * columns)


class Largest(unittest.TestCase):
    def full_rows(self):
        patterns = ["a b c ", "ab c d ", "a bc def ", "abc d ", "ab cd e ", "a b cde fg ", "abcd e f ", "a bcd "]
        rows = []
        for row in range(6):
            texts = []
            for column in range(4):
                texts.append((patterns[(3 * row + 5 * column) % len(patterns)] * 24)[column:column + 24])
            rows.append(texts)
        return rows

    def test_four_full_columns(self):
        rows = self.full_rows()
        table = as_table(rows)
        self.assertEqual(len(table), 600)
        for most in (28, 29, 40, 60, 80, LARGEST):
            with self.subTest(most=most):
                self.assertEqual(best(4, most, table), best_by_trial(4, most, rows))

    def test_every_cell_of_twelve_words(self):
        table = as_table([["a b c d e f g h i j k l "] * 4] * 6)
        self.assertEqual(best(4, 16, table), [-33])
        self.assertEqual(best(4, 17, table), [72, 1, 1, 1, 1])
        self.assertEqual(best(4, 24, table), [72, 1, 1, 1, 1])
        self.assertEqual(best(4, 25, table), [36, 3, 3, 3, 3])
        self.assertEqual(best(4, 104, table), [12, 11, 11, 11, 11])
        self.assertEqual(best(4, 105, table), [6, 23, 23, 23, 23])
        self.assertEqual(best(4, LARGEST, table), [6, 23, 23, 23, 23])

    def test_near_four_thousand_numbers(self):
        self.assertEqual(best(1, 99, [0] * 4000), [-71])
        self.assertEqual(best(0, 99, [0] * 4000), [-71])
        self.assertEqual(best(4, LARGEST, as_table([["a b c d e f g h i j k l "] * 4] * 40)), [-71])
        self.assertEqual(best(3, LARGEST, ([255] + [97] * 255) * 15), [-71])


class LeftAsItWas(unittest.TestCase):
    calls = (
        (2, 30, as_table([["red green blue", "one two"], [" a  b ", ""]])),
        (2, 16, as_table([["red green blue", "one two"], [" a  b ", ""]])),
        (2, 10, as_table([["red green blue", "one two"], [" a  b ", ""]])),
        (4, 40, as_table([["a b c", "d e", "f", "g h i j"]] * 6)),
        (1, 40, as_table([["a"]] * 7)),
        (5, 40, as_table([["a"] * 5])),
        (3, 40, []),
    )

    def test_what_is_handed_in_is_not_changed(self):
        for columns, most, table in self.calls:
            handed = Unchanged(table)
            best(columns, most, handed)
            self.assertEqual(list(handed), table)

    def test_a_second_call_answers_as_the_first(self):
        first = [best(columns, most, list(table)) for columns, most, table in self.calls]
        for one, other in itertools.product(range(len(self.calls)), repeat=2):
            for at in (one, other, one):
                columns, most, table = self.calls[at]
                answer = best(columns, most, list(table))
                self.assertEqual(answer, first[at])
                answer.append(1)
                answer[0] = 99

    def test_the_answer_is_a_list_of_whole_numbers(self):
        for columns, most, table in self.calls:
            answer = best(columns, most, list(table))
            self.assertIs(type(answer), list)
            for number in answer:
                self.assertIs(type(number), int)

    def test_the_arguments_are_named_as_told(self):
        self.assertEqual(best(columns=1, most=7, table=[3, 97, 32, 98]), [1, 3])

    def test_nothing_is_printed(self):
        out = io.StringIO()
        err = io.StringIO()
        with contextlib.redirect_stdout(out), contextlib.redirect_stderr(err):
            for columns, most, table in self.calls:
                best(columns, most, list(table))
        self.assertEqual((out.getvalue(), err.getvalue()), ("", ""))


if __name__ == "__main__":
    unittest.main()
