"""A schema: a list of tables with their columns, and its one form."""

# No value lies farther from 0.
FARTHEST = 1000000


class Table:
    """A table's name and columns."""

    def __init__(self, name, columns):
        self.name = name
        self.columns = columns


class Column:
    """A column of any numbers, as long as nothing narrower is told of it."""

    def __init__(self, name):
        self.name = name
        self.low = -FARTHEST
        self.high = FARTHEST
        # The number of the table to whose rows it refers; None in a column of numbers.
        self.target = None
        self.allows_none = False
        # The word that tells what comes of a row when the one it refers to goes; empty: that's refused.
        self.removal = ""
        self.unique = False


def schema_text(schema):
    """The schema's one form."""
    lines = []
    for table in schema:
        lines.append("table " + table.name + " {\n")
        for column in table.columns:
            lines.append(column_line(schema, column))
        lines.append("}\n")
    return "".join(lines)


def column_line(schema, column):
    told = number_kind(column) if column.target is None else reference_kind(schema, column)
    unique = " unique" if column.unique else ""
    return "  " + column.name + ": " + told + unique + ";\n"


def number_kind(column):
    if column.low == -FARTHEST and column.high == FARTHEST:
        return "number"
    return "number from " + str(column.low) + " to " + str(column.high)


def reference_kind(schema, column):
    words = ["ref", schema[column.target].name]
    if column.allows_none:
        words.append("none")
    if column.removal != "":
        words.append(column.removal)
    return " ".join(words)
