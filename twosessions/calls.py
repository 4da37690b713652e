"""How calls are told in one list of whole numbers."""

LOAD = 0
WRITTEN = 1
FILL = 2
SET = 3
CHANGED = 4
CLASHES = 5
MERGED = 6
COMMIT = 7
REFRESH = 8
TABLES = 9
ORDERS = 10

# For each call, by its number: how many single numbers it has, and whether a list stands behind them.
SINGLE_NUMBERS = (0, 0, 0, 1, 1, 2, 2, 2, 2, 1, 1, 0)
HAS_LIST = (True, False, True, True, False, False, True, True, True, False, False, False)


def read_calls(calls):
    """For each call: its number, its single numbers, and its list (empty, if it has none)."""
    found = []
    place = 0
    while place < len(calls):
        call = calls[place]
        end = place + 1 + SINGLE_NUMBERS[call]
        singles = calls[place + 1:end]
        listed = []
        if HAS_LIST[call]:
            start = end + 1
            end = start + calls[end]
            listed = calls[start:end]
        found.append((call, singles, listed))
        place = end
    return found
