"""How a session's tables and the store's are merged by choices."""

OF_THE_SESSION = 1


def choices_by_row(clashes, choices):
    """For each row that clashes, told by its table and id: the choice for each column that does."""
    found = {}
    for clash, choice in zip(clashes, choices):
        row_choices = found.setdefault(clash[1:3], {})
        row_choices[clash[3]] = choice
    return found


def merged_tables(began, store, own, by_fields, row_choices):
    """The merged tables, good or not; row_choices are as told by choices_by_row."""
    merged = []
    for number in range(len(began)):
        rows = {}
        for row_id in sorted(set(store[number]) | set(own[number])):
            then = began[number].get(row_id)
            there = store[number].get(row_id)
            here = own[number].get(row_id)
            row = merged_row(then, there, here, by_fields, row_choices.get((number, row_id), {}))
            if row is not None:
                rows[row_id] = row
        merged.append(rows)
    return merged


def merged_row(began, store, own, by_fields, choices):
    """One row, None where it isn't there; choices are those for its columns."""
    if by_fields and store is not None and own is not None:
        return merged_fields(began, store, own, choices)
    return merged_one(began, store, own, choices.get(0))


def merged_fields(began, store, own, choices):
    values = []
    for column in range(len(store)):
        # A row that wasn't there had no value either, so each side's counts as changed.
        value = None if began is None else began[column]
        values.append(merged_one(value, store[column], own[column], choices.get(column)))
    return tuple(values)


def merged_one(began, store, own, choice):
    """A whole row or one value; there's a choice only where both sides changed it and are unlike."""
    if store == began or choice == OF_THE_SESSION:
        return own
    # Only the store changed it, or both did so alike, or the store's is chosen.
    return store
