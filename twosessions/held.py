"""The object: what is held, and what each call answers and changes."""

from twosessions.clashing import changed_rows, find_clashes
from twosessions.merging import choices_by_row, merged_tables
from twosessions.reading import FirstFault, read_schema
from twosessions.rows import numbers_of, read_tables
from twosessions.rules import first_broken, first_unfit
from twosessions.schema import schema_text

LONGEST_TEXT = 4096
GREATEST_BYTE = 255

NO_BYTE = -1
TOO_LONG = -2
NO_SESSION = -3
NOT_ROWS = -4
NO_MODE = -8
NO_CHOICE = -12

OTHER_COUNT = 1
NOT_GOOD = 2

SAME_STORE = 1
UNLIKE_STORES = 0
NOT_BOTH_ORDERS = 2

SESSIONS = (0, 1)
STORE = 2
MODES = (0, 1)
BY_FIELDS = 1
CHOICES = (0, 1)


class Held:
    """A schema, the store's tables, for each session those with which it began and its own ones, and how many commits.

    Tables are never changed, only put in the place of others: so several sides may hold the same ones."""

    def __init__(self):
        self.schema = []
        self.begin_with([])

    def begin_with(self, tables):
        """The tables are the store's, both sessions begin with them, and no commits were made."""
        self.commits = 0
        self.store = tables
        self.began = [tables, tables]
        self.own = [tables, tables]

    def load(self, numbers):
        if any([number < 0 or number > GREATEST_BYTE for number in numbers]):
            return [NO_BYTE]
        if len(numbers) > LONGEST_TEXT:
            return [TOO_LONG]
        try:
            schema = read_schema(numbers)
        except FirstFault as fault:
            return [1, fault.kind, fault.place]
        self.schema = schema
        self.begin_with([{} for table in schema])
        return [0, len(schema), sum([len(table.columns) for table in schema])]

    def written(self):
        return [0] + [ord(character) for character in schema_text(self.schema)]

    def fill(self, numbers):
        tables = read_tables(self.schema, numbers)
        answer = self.judge_tables(tables)
        if answer == [0]:
            self.begin_with(tables)
        return answer

    def set_own(self, session, numbers):
        if session not in SESSIONS:
            return [NO_SESSION]
        tables = read_tables(self.schema, numbers)
        answer = self.judge_tables(tables)
        if answer == [0]:
            self.own[session] = tables
        return answer

    def judge_tables(self, tables):
        """What fill and set answer of tables that are to be held; they are None, if they weren't of their form."""
        if tables is None:
            return [NOT_ROWS]
        broken = first_broken(self.schema, tables)
        if len(broken) > 0:
            return [1] + broken
        return [0]

    def changed(self, session):
        if session not in SESSIONS:
            return [NO_SESSION]
        return counted(self.changed_by(session))

    def changed_by(self, session):
        return changed_rows(self.began[session], self.own[session])

    def clashes(self, session, mode):
        if session not in SESSIONS:
            return [NO_SESSION]
        if mode not in MODES:
            return [NO_MODE]
        return counted(self.clashes_of(session, mode))

    def clashes_of(self, session, mode):
        return find_clashes(self.began[session], self.store, self.own[session], mode == BY_FIELDS)

    def merged(self, session, mode, choices):
        answer, tables = self.merge(session, mode, choices)
        if tables is not None:
            answer.extend(numbers_of(tables))
        return answer

    def commit(self, session, mode, choices):
        answer, tables = self.merge(session, mode, choices)
        if tables is not None:
            answer.append(len(changed_rows(self.store, tables)))
            self.store = tables
            self.began[session] = tables
            self.own[session] = tables
            self.commits += 1
        return answer

    def refresh(self, session, mode, choices):
        answer, tables = self.merge(session, mode, choices)
        if tables is not None:
            answer.append(len(changed_rows(self.own[session], tables)))
            self.began[session] = self.store
            self.own[session] = tables
        return answer

    def merge(self, session, mode, choices):
        """The answer 0 and the merged tables; or what's answered if there are none, and None."""
        if session not in SESSIONS:
            return [NO_SESSION], None
        if mode not in MODES:
            return [NO_MODE], None
        if not all([choice in CHOICES for choice in choices]):
            return [NO_CHOICE], None
        clashes = self.clashes_of(session, mode)
        if len(choices) != len(clashes):
            return [OTHER_COUNT, len(clashes)], None
        tables = merged_tables(self.began[session], self.store, self.own[session], mode == BY_FIELDS,
                               choices_by_row(clashes, choices))
        unfit = first_unfit(self.schema, tables)
        if len(unfit) > 0:
            return [NOT_GOOD] + unfit, None
        return [0], tables

    def tables(self, side):
        if side == STORE:
            return [0] + numbers_of(self.store)
        if side not in SESSIONS:
            return [NO_SESSION]
        return [0] + numbers_of(self.began[side]) + numbers_of(self.own[side])

    def orders(self, mode):
        if mode not in MODES:
            return [NO_MODE]
        first = self.store_behind((0, 1), mode)
        second = self.store_behind((1, 0), mode)
        if first is None or second is None:
            return [NOT_BOTH_ORDERS]
        return [SAME_STORE if first == second else UNLIKE_STORES]

    def store_behind(self, order, mode):
        """What the store would be behind a commit of each session without choices, or None, if one can't be made."""
        twin = self.twin()
        for session in order:
            if twin.commit(session, mode, [])[0] != 0:
                return None
        return twin.store

    def twin(self):
        """Another object that holds the same."""
        twin = Held()
        twin.schema = self.schema
        twin.commits = self.commits
        twin.store = self.store
        twin.began = list(self.began)
        twin.own = list(self.own)
        return twin

    def size(self):
        return [0, self.commits] + [len(self.changed_by(session)) for session in SESSIONS]


def counted(found):
    """The answer that tells how many were found, and the numbers of each."""
    answer = [0, len(found)]
    for numbers in found:
        answer.extend(numbers)
    return answer
