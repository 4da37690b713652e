"""What a session changed, and where it clashes with the store."""

ADDED = 0
ALTERED = 1
REMOVED = 2

BOTH_ALTERED = 0
STORE_REMOVED = 1
SESSION_REMOVED = 2
BOTH_ADDED = 3
WHOLE_ROW = 4


def changed_rows(began, own):
    """For each row that's otherwise: how it's changed, the table and the id."""
    found = []
    for number in range(len(began)):
        for row_id in sorted(set(began[number]) | set(own[number])):
            if began[number].get(row_id) != own[number].get(row_id):
                found.append((change_of(row_id, began[number], own[number]), number, row_id))
    return found


def change_of(row_id, began, own):
    if row_id not in began:
        return ADDED
    return ALTERED if row_id in own else REMOVED


def find_clashes(began, store, own, by_fields):
    """All clashes in order: kind, table, id, column, and the three values, or 0 where they aren't told."""
    found = []
    for number in range(len(began)):
        for row_id in sorted(set(store[number]) | set(own[number])):
            then = began[number].get(row_id)
            there = store[number].get(row_id)
            here = own[number].get(row_id)
            for kind, column, values in row_clashes(then, there, here, by_fields):
                found.append((kind, number, row_id, column) + values)
    return found


def row_clashes(began, store, own, by_fields):
    """One row's clashes: kind, column and values; began, store and own are the row, None where it isn't there."""
    if store == began or own == began or store == own:
        return []
    if store is None:
        return [(STORE_REMOVED, 0, (0, 0, 0))]
    if own is None:
        return [(SESSION_REMOVED, 0, (0, 0, 0))]
    if not by_fields:
        return [(WHOLE_ROW, 0, (0, 0, 0))]
    if began is None:
        return added_clashes(store, own)
    return altered_clashes(began, store, own)


def added_clashes(store, own):
    found = []
    for column in range(len(store)):
        if store[column] != own[column]:
            found.append((BOTH_ADDED, column, (0, store[column], own[column])))
    return found


def altered_clashes(began, store, own):
    found = []
    for column, value in enumerate(began):
        values = (value, store[column], own[column])
        if len(set(values)) == 3:
            found.append((BOTH_ALTERED, column, values))
    return found
