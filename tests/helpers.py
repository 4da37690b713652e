"""Calls as texts and lists, and their answers one by one."""

from twosessions.held import Held
from twosessions.rows import read_tables
from twosessions.store import answers


def as_bytes(text):
    return [ord(character) for character in text]


def with_length(numbers):
    return [len(numbers)] + list(numbers)


def load(text):
    return [0] + with_length(as_bytes(text))


def load_numbers(numbers):
    return [0] + with_length(numbers)


def written():
    return [1]


def fill(rows):
    return [2] + with_length(rows)


def set_own(session, rows):
    return [3, session] + with_length(rows)


def changed(session):
    return [4, session]


def clashes(session, mode):
    return [5, session, mode]


def ask(*calls):
    """The answers of the calls on one new object, a list for each."""
    told = answers([number for call in calls for number in call])
    found = []
    place = 0
    while place < len(told):
        end = place + 1 + told[place]
        found.append(told[place + 1:end])
        place = end
    assert place == len(told)
    return found


def last(*calls):
    return ask(*calls)[-1]


def loaded(text):
    return last(load(text))


def form_of(text):
    """The one form of the schema that the text tells."""
    answer = last(load(text), written())
    assert answer[0] == 0
    return "".join([chr(number) for number in answer[1:]])


def held_with(text, began, store, own):
    """An object whose session 0 has these rows, as it may come to them by commits."""
    held = Held()
    assert held.load(as_bytes(text))[0] == 0
    held.began = [read_tables(held.schema, began), held.began[1]]
    held.store = read_tables(held.schema, store)
    held.own = [read_tables(held.schema, own), held.own[1]]
    return held
