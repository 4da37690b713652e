"""Calls as texts and lists, and their answers one by one."""

from twosessions.store import answers


def as_bytes(text):
    return [ord(character) for character in text]


def with_length(numbers):
    return [len(numbers)] + list(numbers)


def load(text):
    return [0] + with_length(as_bytes(text))


def load_numbers(numbers):
    return [0] + with_length(numbers)


def written():
    return [1]


def fill(rows):
    return [2] + with_length(rows)


def set_own(session, rows):
    return [3, session] + with_length(rows)


def changed(session):
    return [4, session]


def clashes(session, mode):
    return [5, session, mode]


def merged(session, mode, choices=()):
    return [6, session, mode] + with_length(choices)


def commit(session, mode, choices=()):
    return [7, session, mode] + with_length(choices)


def refresh(session, mode, choices=()):
    return [8, session, mode] + with_length(choices)


def tables(side):
    return [9, side]


def orders(mode):
    return [10, mode]


def size():
    return [11]


# Whoever asks these sees all that the object holds.
ALL_HELD = (written(), tables(0), tables(1), tables(2), size())


def ask(*calls):
    """The answers of the calls on one new object, a list for each."""
    told = answers([number for call in calls for number in call])
    found = []
    place = 0
    while place < len(told):
        end = place + 1 + told[place]
        found.append(told[place + 1:end])
        place = end
    assert place == len(told)
    return found


def last(*calls):
    return ask(*calls)[-1]


def loaded(text):
    return last(load(text))


def form_of(text):
    """The one form of the schema that the text tells."""
    answer = last(load(text), written())
    assert answer[0] == 0
    return "".join([chr(number) for number in answer[1:]])


def behind(begin, *calls):
    """The answers of the calls, made behind others that all answer 0 first."""
    told = ask(*begin, *calls)
    assert all(answer[0] == 0 for answer in told[:len(begin)]), told
    return told[len(begin):]


def sides(text, began, store, own, session=0):
    """Calls behind which the session began with these rows, the store has these, and the session has these."""
    other = 1 - session
    return (load(text), fill(began), set_own(other, store), commit(other, 0), set_own(session, own))
