"""The interface: calls on one object, and what they answer."""

from twosessions.calls import CHANGED, CLASHES, COMMIT, FILL, LOAD, MERGED, ORDERS, REFRESH, SET, TABLES, WRITTEN
from twosessions.calls import read_calls
from twosessions.held import Held


def answers(calls):
    """For each call, in order, how many numbers are answered, and these."""
    held = Held()
    told = []
    for call, singles, listed in read_calls(calls):
        answer = answer_call(held, call, singles, listed)
        told.append(len(answer))
        told.extend(answer)
    return told


def answer_call(held, call, singles, listed):
    if call == LOAD:
        return held.load(listed)
    if call == WRITTEN:
        return held.written()
    if call == FILL:
        return held.fill(listed)
    if call == SET:
        return held.set_own(singles[0], listed)
    if call == CHANGED:
        return held.changed(singles[0])
    if call == CLASHES:
        return held.clashes(singles[0], singles[1])
    if call == MERGED:
        return held.merged(singles[0], singles[1], listed)
    if call == COMMIT:
        return held.commit(singles[0], singles[1], listed)
    if call == REFRESH:
        return held.refresh(singles[0], singles[1], listed)
    if call == TABLES:
        return held.tables(singles[0])
    if call == ORDERS:
        return held.orders(singles[0])
    # Only size is left.
    return held.size()
