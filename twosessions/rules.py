"""Whether tables are good: which row breaks a rule first, and which one; and whether they have too many rows."""

from twosessions.rows import MOST_ROWS

OUT_OF_RANGE = 2
NO_SUCH_ROW = 3
NOT_UNIQUE = 4
TOO_MANY_ROWS = 5
NOTHING_BROKEN = 0


def first_unfit(schema, tables):
    """As first_broken, of tables that may have too many rows, which counts ahead of all rules."""
    for number, rows in enumerate(tables):
        if len(rows) > MOST_ROWS:
            return [TOO_MANY_ROWS, number, 0, 0]
    return first_broken(schema, tables)


def first_broken(schema, tables):
    """The rule, the table, the id and the column of the first row that breaks one; empty, if all are good."""
    for number in range(len(schema)):
        for row_id in sorted(tables[number]):
            broken = row_broken(schema, tables, number, row_id)
            if len(broken) > 0:
                return broken
    return []


def row_broken(schema, tables, number, row_id):
    """As first_broken, of one row."""
    rows = tables[number]
    for place, column in enumerate(schema[number].columns):
        others = [rows[other_id][place] for other_id in rows if other_id != row_id]
        rule = value_broken(column, rows[row_id][place], others, tables)
        if rule != NOTHING_BROKEN:
            return [rule, number, row_id, place]
    return []


def value_broken(column, value, others, tables):
    """The first rule that the value breaks; others are the values of the table's other rows there."""
    if column.target is None:
        if value < column.low or value > column.high:
            return OUT_OF_RANGE
    elif value == 0:
        # None may stand more than once in a unique column, too.
        return NOTHING_BROKEN if column.allows_none else NO_SUCH_ROW
    elif value not in tables[column.target]:
        return NO_SUCH_ROW
    if column.unique and value in others:
        return NOT_UNIQUE
    return NOTHING_BROKEN
