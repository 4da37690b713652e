"""The object: what is held, and what each call answers and changes."""

from twosessions.clashing import changed_rows, find_clashes
from twosessions.reading import FirstFault, read_schema
from twosessions.rows import read_tables
from twosessions.rules import first_broken
from twosessions.schema import schema_text

LONGEST_TEXT = 4096
GREATEST_BYTE = 255

NO_BYTE = -1
TOO_LONG = -2
NO_SESSION = -3
NOT_ROWS = -4
NO_MODE = -8


class Held:
    """A schema, the store's tables, and for each session those with which it began and its own ones.

    Tables are never changed, only put in the place of others: so several sides may hold the same ones."""

    def __init__(self):
        self.schema = []
        self.begin_with([])

    def begin_with(self, tables):
        """The tables are the store's, and both sessions begin with them."""
        self.store = tables
        self.began = [tables, tables]
        self.own = [tables, tables]

    def load(self, numbers):
        if any([number < 0 or number > GREATEST_BYTE for number in numbers]):
            return [NO_BYTE]
        if len(numbers) > LONGEST_TEXT:
            return [TOO_LONG]
        try:
            schema = read_schema(numbers)
        except FirstFault as fault:
            return [1, fault.kind, fault.place]
        self.schema = schema
        self.begin_with([{} for table in schema])
        return [0, len(schema), sum([len(table.columns) for table in schema])]

    def written(self):
        return [0] + [ord(character) for character in schema_text(self.schema)]

    def fill(self, numbers):
        tables = read_tables(self.schema, numbers)
        answer = self.judge_tables(tables)
        if answer == [0]:
            self.begin_with(tables)
        return answer

    def set_own(self, session, numbers):
        if not is_session(session):
            return [NO_SESSION]
        tables = read_tables(self.schema, numbers)
        answer = self.judge_tables(tables)
        if answer == [0]:
            self.own[session] = tables
        return answer

    def judge_tables(self, tables):
        """What fill and set answer of tables that are to be held; they are None, if they weren't of their form."""
        if tables is None:
            return [NOT_ROWS]
        broken = first_broken(self.schema, tables)
        if len(broken) > 0:
            return [1] + broken
        return [0]

    def changed(self, session):
        if not is_session(session):
            return [NO_SESSION]
        return counted(changed_rows(self.began[session], self.own[session]))

    def clashes(self, session, mode):
        if not is_session(session):
            return [NO_SESSION]
        if not is_mode(mode):
            return [NO_MODE]
        return counted(find_clashes(self.began[session], self.store, self.own[session], mode == 1))


def is_session(number):
    return number == 0 or number == 1


def is_mode(number):
    return number == 0 or number == 1


def counted(found):
    """The answer that tells how many were found, and the numbers of each."""
    answer = [0, len(found)]
    for numbers in found:
        answer.extend(numbers)
    return answer
