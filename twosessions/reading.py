"""How a text is read: the schema that it tells, or its first fault."""

from twosessions.schema import Column, Table
from twosessions.tokens import END, MALFORMED, NUMBER, STRAY, WORD, characters_of, tokens_of

MOST_TABLES = 4
MOST_COLUMNS = 4
NO_NAMES = ("table", "number", "from", "to", "ref", "none", "cascade", "clear", "unique")

NO_TOKEN = 1
NOT_AS_TOLD = 2
CANNOT_STAND = 3
ENDS_EARLY = 4
TOO_MANY = 5
NAMED_TWICE = 6
NO_SUCH_TABLE = 7
AT_ODDS = 8


class FirstFault(Exception):
    """The kind and the place of a text's first fault."""

    def __init__(self, kind, place):
        self.kind = kind
        self.place = place


def read_schema(numbers):
    """The schema that the bytes tell; raises FirstFault."""
    reader = SchemaReader(tokens_of(characters_of(numbers)))
    reader.read_all()
    return reader.schema


def fault_of(sort):
    """The fault of a token that isn't wanted where it stands."""
    if sort == STRAY:
        return NO_TOKEN
    if sort == MALFORMED:
        return NOT_AS_TOLD
    if sort == END:
        return ENDS_EARLY
    return CANNOT_STAND


class SchemaReader:
    """Goes through the tokens once, and looks at none behind a fault."""

    def __init__(self, tokens):
        self.tokens = tokens
        self.position = 0
        self.schema = []
        # (column, name, place) of each name behind ref, which may be a later table's.
        self.references = []

    def sort_here(self):
        return self.tokens[self.position][0]

    def token_here(self):
        return self.tokens[self.position][1]

    def place_here(self):
        return self.tokens[self.position][2]

    def refuse_token(self):
        raise FirstFault(fault_of(self.sort_here()), self.place_here())

    def take_any(self):
        token = self.token_here()
        self.position += 1
        return token

    def take(self, wanted):
        if not self.take_if(wanted):
            self.refuse_token()

    def take_if(self, wanted):
        if self.token_here() != wanted:
            return False
        self.position += 1
        return True

    def take_name(self):
        if self.sort_here() != WORD or self.token_here() in NO_NAMES:
            self.refuse_token()
        return self.take_any()

    def take_new_name(self, earlier):
        """The name of a table or column; earlier are those that have theirs."""
        place = self.place_here()
        name = self.take_name()
        if name in [other.name for other in earlier]:
            raise FirstFault(NAMED_TWICE, place)
        return name

    def read_all(self):
        while self.sort_here() != END:
            self.schema.append(self.read_table())
        self.find_targets()

    def read_table(self):
        place = self.place_here()
        self.take("table")
        if len(self.schema) == MOST_TABLES:
            raise FirstFault(TOO_MANY, place)
        name = self.take_new_name(self.schema)
        self.take("{")
        columns = []
        while not self.take_if("}"):
            # Ahead of all other faults: this one counts whatever token stands here.
            if len(columns) == MOST_COLUMNS:
                raise FirstFault(TOO_MANY, self.place_here())
            columns.append(self.read_column(columns))
        return Table(name, columns)

    def read_column(self, earlier):
        column = Column(self.take_new_name(earlier))
        self.take(":")
        if self.take_if("number"):
            self.read_range(column)
        else:
            self.take("ref")
            self.read_reference(column)
        column.unique = self.take_if("unique")
        self.take(";")
        return column

    def read_range(self, column):
        if not self.take_if("from"):
            return
        column.low = self.read_bound()
        self.take("to")
        place = self.place_here()
        column.high = self.read_bound()
        if column.high < column.low:
            raise FirstFault(AT_ODDS, place)

    def read_bound(self):
        below_zero = self.take_if("-")
        if self.sort_here() != NUMBER:
            self.refuse_token()
        number = int(self.take_any())
        return -number if below_zero else number

    def read_reference(self, column):
        place = self.place_here()
        self.references.append((column, self.take_name(), place))
        column.allows_none = self.take_if("none")
        place = self.place_here()
        if self.take_if("cascade"):
            column.removal = "cascade"
        elif self.take_if("clear"):
            if not column.allows_none:
                raise FirstFault(AT_ODDS, place)
            column.removal = "clear"

    def find_targets(self):
        names = [table.name for table in self.schema]
        for column, name, place in self.references:
            if name not in names:
                raise FirstFault(NO_SUCH_TABLE, place)
            column.target = names.index(name)
