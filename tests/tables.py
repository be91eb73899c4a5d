"""What the tests share: tables from texts, what they are like with widths, and the best widths by a look at all."""

import itertools

LARGEST = 4294967295


def as_table(rows):
    """Turn rows of texts into the one list that a call takes."""
    table = []
    for row in rows:
        for text in row:
            table.append(len(text))
            table.extend(ord(sign) for sign in text)
    return table


def words_of(text):
    return [word for word in text.split(" ") if word != ""]


def broken(text, width):
    """The lines of a cell, written out; None where it can't be broken to that width."""
    if width < 1:
        return None
    lines = [""]
    for word in words_of(text):
        if len(word) > width:
            return None
        if lines == [""]:
            lines = [word]
        elif len(lines[-1] + " " + word) <= width:
            lines[-1] = lines[-1] + " " + word
        else:
            lines.append(word)
    return lines


def heights_of_column(rows, column, width):
    """How high each cell of a column is; None where the column may not have that width."""
    if width < 1:
        return None
    heights = []
    for row in rows:
        lines = broken(row[column], width)
        if lines is None:
            return None
        heights.append(len(lines))
    return heights


def wide(widths):
    return sum(width + 3 for width in widths) + 1


def height_with(rows, widths):
    """How high the table is with these widths; None where they may not be."""
    by_column = []
    for column, width in enumerate(widths):
        heights = heights_of_column(rows, column, width)
        if heights is None:
            return None
        by_column.append(heights)
    return sum(max(of_row) for of_row in zip(*by_column))


def high_by_lines(rows, widths):
    """The answer of high, as "A table" says it, with every line written out."""
    height = height_with(rows, widths)
    if height is None:
        return [-33]
    return [height, wide(widths)]


def widths_that_may_be(columns, rows):
    """For each column: every width up to one past the longest cell, by which it's no lower than a wider one."""
    longest = max([1] + [len(text) for row in rows for text in row])
    known = []
    for column in range(columns):
        heights = {}
        for width in range(1, longest + 2):
            found = heights_of_column(rows, column, width)
            if found is not None:
                heights[width] = found
        known.append(heights)
    return known


def best_by_trial(columns, most, rows):
    """The answer of best, as "The best widths" says it, by a look at all widths."""
    known = widths_that_may_be(columns, rows)
    found = None
    for widths in itertools.product(*known):
        if wide(widths) > most:
            continue
        heights = [of_column[width] for of_column, width in zip(known, widths)]
        rank = (sum(map(max, zip(*heights))), wide(widths), widths)
        if found is None or rank < found:
            found = rank
    if found is None:
        return [-33]
    return [found[0]] + list(found[2])


def random_rows(chance, columns, count, size):
    rows = []
    for row in range(count):
        rows.append([random_text(chance, chance.randint(0, size)) for column in range(columns)])
    return rows


def random_text(chance, size):
    blanks = chance.choice((1, 2, 4))
    return "".join(chance.choice("abcd~!" + " " * blanks) for sign in range(size))


class Unchanged(list):
    """A list that lets nothing change it, not for a while either."""

    def refuse(self, *given, **named):
        raise AssertionError("a list that was handed in is being changed")

    append = extend = insert = pop = remove = clear = sort = reverse = refuse
    __setitem__ = __delitem__ = __iadd__ = __imul__ = refuse
