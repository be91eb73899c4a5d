"""The widths of a table's columns with which it has the fewest lines, and how high and wide it is with given ones."""

NOT_AS_TOLD = -71
MAY_NOT_BE = -33

MOST_COLUMNS = 4
MOST_ROWS = 6
MOST_BYTES = 24

BLANK = 32
LAST_BYTE = 126

BESIDE_A_COLUMN = 3
BESIDE_A_TABLE = 1


def best(columns, most, table):
    """Answer how high the table is with the best widths no wider than most, then these; or a refusal."""
    cells = cut_into_cells(table)
    if not is_as_told(columns, cells):
        return [NOT_AS_TOLD]
    by_column = split_by_column(columns, cells)
    ways = ways_within(by_column, most - beside_widths(columns))
    if len(ways) == 0:
        return [MAY_NOT_BE]
    # A way begins with its total width, so equal heights are decided by that, then by the first column that differs.
    lowest = min([(sum(heights), way) for heights, way in ways.items()])
    return [lowest[0]] + list(lowest[1][1])


def high(widths, table):
    """Answer how high the table is with these widths, then how wide; or a refusal."""
    columns = len(widths)
    cells = cut_into_cells(table)
    if not is_as_told(columns, cells):
        return [NOT_AS_TOLD]
    heights = tuple([0] * (len(cells) // columns))
    for width, column in zip(widths, split_by_column(columns, cells)):
        if width < least_width(column):
            return [MAY_NOT_BE]
        heights = higher_of(heights, heights_of_column(column, width))
    return [sum(heights), sum(widths) + beside_widths(columns)]


def cut_into_cells(table):
    """Give the bytes of each cell, row by row."""
    cells = []
    at = 0
    while at < len(table):
        behind = at + 1 + table[at]
        cells.append(table[at + 1:behind])
        at = behind
    return cells


def is_as_told(columns, cells):
    """Tell whether a table of these cells keeps to the bounds that every call sets."""
    if columns < 1 or columns > MOST_COLUMNS:
        return False
    if len(cells) > columns * MOST_ROWS:
        return False
    for cell in cells:
        if not is_cell_as_told(cell):
            return False
    return True


def is_cell_as_told(cell):
    """Tell whether a cell is short enough and has no byte out of range."""
    if len(cell) > MOST_BYTES:
        return False
    for byte in cell:
        if byte < BLANK or byte > LAST_BYTE:
            return False
    return True


def split_by_column(columns, cells):
    """Give for each column its cells from the first row on, each as the lengths of its words."""
    words = [word_lengths(cell) for cell in cells]
    by_column = []
    for column in range(columns):
        by_column.append([words[at] for at in range(column, len(words), columns)])
    return by_column


def word_lengths(cell):
    """Give how long each word of a cell is."""
    lengths = []
    length = 0
    for byte in cell:
        if byte != BLANK:
            length = length + 1
        elif length > 0:
            lengths.append(length)
            length = 0
    if length > 0:
        lengths.append(length)
    return lengths


def beside_widths(columns):
    """Give how much wider a table is than the widths of its columns together."""
    return BESIDE_A_COLUMN * columns + BESIDE_A_TABLE


def least_width(column):
    """Give the least width that a column of such cells may have."""
    return max([1] + [max(lengths, default=1) for lengths in column])


def widest_needed(column):
    """Give the width from which on no cell of a column becomes lower."""
    return max([1] + [sum(lengths) + len(lengths) - 1 for lengths in column])


def lines_of_cell(lengths, width):
    """Give how high a cell with words of these lengths is, broken to a width that it can be broken to."""
    lines = 1
    used = 0
    for length in lengths:
        if used == 0:
            used = length
        elif used + 1 + length <= width:
            used = used + 1 + length
        else:
            lines = lines + 1
            used = length
    return lines


def heights_of_column(column, width):
    """Give how high each cell of a column is, with a width that the column may have."""
    return tuple([lines_of_cell(lengths, width) for lengths in column])


def width_choices(column):
    """Give the widths of a column that are worth a look, narrowest first, each with how high its cells are then."""
    choices = []
    for width in range(least_width(column), widest_needed(column) + 1):
        heights = heights_of_column(column, width)
        # A width that makes no cell lower than a narrower one does can't be among the best.
        if len(choices) == 0 or choices[-1][1] != heights:
            choices.append((width, heights))
    return choices


def ways_within(by_column, room):
    """Give the row heights that can be had, each with its best way: the widths' total, then the widths.

    A total is at most room; there is no way at all where even the least widths are more.
    """
    ways = {tuple([0] * len(by_column[0])): (0, ())}
    for column in by_column:
        ways = with_column(ways, width_choices(column), room)
    return ways


def with_column(ways, choices, room):
    """Give the ways for the columns so far and one more.

    One way for each list of row heights is enough: whatever columns follow, the narrower stays the narrower,
    and of two as narrow the one that's ahead stays ahead.
    """
    longer = {}
    for heights, way in ways.items():
        for width, own in choices:
            total = way[0] + width
            if total > room:
                break
            joined = higher_of(heights, own)
            candidate = (total, way[1] + (width,))
            if joined not in longer or candidate < longer[joined]:
                longer[joined] = candidate
            # The columns ahead alone make the rows as high: more width for this one makes none lower.
            if joined == heights:
                break
    return longer


def higher_of(heights, own):
    """Give for each row the greater of two heights."""
    return tuple([max(one, other) for one, other in zip(heights, own)])
