"""Tables: reading them, laying them as numbers, and doing deeds on them."""

from loopsfound.deeds import ADD, COPY, DELETE, DOUBLE, DOWN, FIND, LAST_FIELD, MOST_NUMBER, PASTE, TOP, UP, WRITE
from loopsfound.reading import Reader

MOST_ROWS = 8

WELL = 0
NO_ROW_HERE = 1
AT_ROW_0 = 2
BEYOND_999 = 3
ROWS_FULL = 4
NONE_FOUND = 5


class Table:
    """Rows of three values; the cursor, which is as great as there are rows if it is behind them; the clipboard."""

    def __init__(self, rows, cursor, clipboard):
        self.rows = rows
        self.cursor = cursor
        self.clipboard = clipboard


def read_value(reader):
    return reader.take(-MOST_NUMBER, MOST_NUMBER)


def whole_table(numbers):
    """The table that the list is, if it is just that."""
    reader = Reader(numbers)
    rows = []
    for place in range(reader.take(0, MOST_ROWS)):
        rows.append([read_value(reader) for field in range(LAST_FIELD + 1)])
    cursor = reader.take(0, len(rows))
    clipboard = read_value(reader)
    reader.finish()
    return Table(rows, cursor, clipboard)


def table_as_numbers(table):
    numbers = [len(table.rows)]
    for row in table.rows:
        numbers.extend(row)
    numbers.extend([table.cursor, table.clipboard])
    return numbers


def found_below(table, field, number):
    """The next row further down whose field is this number, or None."""
    for place in range(table.cursor + 1, len(table.rows)):
        if table.rows[place][field] == number:
            return place
    return None


def new_value(table, deed):
    """What write, add or paste makes of the field of the row here."""
    if deed[0] == PASTE:
        return table.clipboard
    if deed[0] == ADD:
        return table.rows[table.cursor][deed[1]] + deed[2]
    return deed[2]


def fault_of(table, deed):
    """The first reason for which the deed can't be done, or that all is well."""
    kind = deed[0]
    if kind == TOP:
        return WELL
    if kind == UP:
        return AT_ROW_0 if table.cursor == 0 else WELL
    if kind == FIND:
        return NONE_FOUND if found_below(table, deed[1], deed[2]) is None else WELL
    if table.cursor == len(table.rows):
        return NO_ROW_HERE
    if kind in (WRITE, ADD) and abs(new_value(table, deed)) > MOST_NUMBER:
        return BEYOND_999
    if kind == DOUBLE and len(table.rows) == MOST_ROWS:
        return ROWS_FULL
    return WELL


def do_deed(table, deed):
    """Does a deed that isn't at fault."""
    kind = deed[0]
    if kind == DOWN:
        table.cursor = table.cursor + 1
    elif kind == UP:
        table.cursor = table.cursor - 1
    elif kind == TOP:
        table.cursor = 0
    elif kind == COPY:
        table.clipboard = table.rows[table.cursor][deed[1]]
    elif kind == DELETE:
        table.rows.pop(table.cursor)
    elif kind == DOUBLE:
        # A copy, since the two rows are changed each on its own from now on.
        table.rows.insert(table.cursor, list(table.rows[table.cursor]))
    elif kind == FIND:
        table.cursor = found_below(table, deed[1], deed[2])
    else:
        table.rows[table.cursor][deed[1]] = new_value(table, deed)


def run_deeds(table, deeds):
    """Does deeds up to the first one at fault: how this ended, and how many were done."""
    done = 0
    for deed in deeds:
        fault = fault_of(table, deed)
        if fault != WELL:
            return [fault, done]
        do_deed(table, deed)
        done = done + 1
    return [WELL, done]
