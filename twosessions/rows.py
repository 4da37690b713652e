"""All tables' rows: for each table a dict from a row's id to its values, a tuple, by rising ids."""

from twosessions.schema import FARTHEST

MOST_ROWS = 8
GREATEST_ID = 99


def read_tables(schema, numbers):
    """The tables that the numbers tell, or None, if they aren't of their form."""
    tables = []
    place = 0
    for table in schema:
        width = 1 + len(table.columns)
        if place == len(numbers) or not is_row_count(numbers[place]):
            return None
        start = place + 1
        place = start + numbers[place] * width
        if place > len(numbers):
            return None
        rows = read_rows(numbers[start:place], width)
        if rows is None:
            return None
        tables.append(rows)
    return tables if place == len(numbers) else None


def is_row_count(number):
    return number >= 0 and number <= MOST_ROWS


def read_rows(numbers, width):
    """One table's rows, each of as many numbers as width tells, or None."""
    rows = {}
    last_id = 0
    for start in range(0, len(numbers), width):
        row_id = numbers[start]
        row = tuple(numbers[start + 1:start + width])
        if row_id <= last_id or row_id > GREATEST_ID or not are_values(row):
            return None
        rows[row_id] = row
        last_id = row_id
    return rows


def are_values(row):
    return all([abs(value) <= FARTHEST for value in row])


def numbers_of(tables):
    """All tables' rows, told so that read_tables makes the same tables of them."""
    numbers = []
    for rows in tables:
        numbers.append(len(rows))
        for row_id in sorted(rows):
            numbers.append(row_id)
            numbers.extend(rows[row_id])
    return numbers
