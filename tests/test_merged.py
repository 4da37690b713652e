import itertools
import unittest

from tests.helpers import ALL_HELD, as_bytes, ask, behind, merged, sides
from twosessions.held import Held
from twosessions.rows import read_tables

ONE = "table t{a:number;b:number;}"
THREE = "table t{a:number;b:number;c:number;}"
TWO = "table t{a:number;b:number;}table u{c:number;}"
BARE = "table t{}table u{}"
BOTH_MODES = (0, 1)


class Merging(unittest.TestCase):
    def merge(self, text, began, store, own, mode, choices, answer):
        """Either session merges so."""
        for session in (0, 1):
            self.assertEqual(behind(sides(text, began, store, own, session), merged(session, mode, choices)), [answer],
                             (text, began, store, own, mode, choices))


class WithoutClashes(Merging):
    def merges(self, began, store, own, rows):
        for mode in BOTH_MODES:
            self.merge(ONE, began, store, own, mode, [], [0] + rows)

    def test_changed_on_no_side(self):
        self.merges([2, 1, 5, 6, 2, 7, 8], [2, 1, 5, 6, 2, 7, 8], [2, 1, 5, 6, 2, 7, 8], [2, 1, 5, 6, 2, 7, 8])
        self.merges([0], [0], [0], [0])

    def test_changed_in_the_store_alone(self):
        self.merges([1, 1, 5, 6], [1, 1, 7, 6], [1, 1, 5, 6], [1, 1, 7, 6])
        self.merges([1, 1, 5, 6], [0], [1, 1, 5, 6], [0])
        self.merges([0], [1, 1, 7, 6], [0], [1, 1, 7, 6])

    def test_changed_by_the_session_alone(self):
        self.merges([1, 1, 5, 6], [1, 1, 5, 6], [1, 1, 5, 7], [1, 1, 5, 7])
        self.merges([1, 1, 5, 6], [1, 1, 5, 6], [0], [0])
        self.merges([0], [0], [1, 1, 5, 7], [1, 1, 5, 7])

    def test_both_changed_alike(self):
        self.merges([1, 1, 5, 6], [1, 1, 7, 8], [1, 1, 7, 8], [1, 1, 7, 8])
        self.merges([1, 1, 5, 6], [0], [0], [0])
        self.merges([0], [1, 1, 7, 8], [1, 1, 7, 8], [1, 1, 7, 8])

    def test_changes_of_both_stand_by_rising_ids(self):
        self.merges([3, 2, 0, 0, 4, 0, 0, 6, 0, 0], [4, 2, 0, 0, 4, 1, 1, 5, 2, 2, 6, 0, 0],
                    [4, 1, 3, 3, 2, 4, 4, 3, 5, 5, 4, 0, 0], [5, 1, 3, 3, 2, 4, 4, 3, 5, 5, 4, 1, 1, 5, 2, 2])
        self.merges([0], [2, 1, 0, 1, 99, 0, 0], [2, 2, 0, 2, 98, 0, 0],
                    [4, 1, 0, 1, 2, 0, 2, 98, 0, 0, 99, 0, 0])

    def test_rows_without_columns(self):
        for mode in BOTH_MODES:
            self.merge(BARE, [2, 1, 2, 1, 7], [2, 2, 3, 1, 7], [2, 2, 4, 0], mode, [], [0, 3, 2, 3, 4, 0])

    def test_a_column_each_by_fields(self):
        self.merge(ONE, [1, 1, 5, 6], [1, 1, 7, 6], [1, 1, 5, 8], 1, [], [0, 1, 1, 7, 8])
        self.merge(THREE, [1, 1, 5, 6, 0], [1, 1, 7, 6, 0], [1, 1, 7, 8, 0], 1, [], [0, 1, 1, 7, 8, 0])
        self.merge(THREE, [1, 1, 5, 6, 0], [1, 1, 0, 0, 1], [1, 1, 5, 6, 1], 1, [], [0, 1, 1, 0, 0, 1])


class WithChoices(Merging):
    def both_ways(self, text, began, store, own, mode, with_0, with_1):
        self.merge(text, began, store, own, mode, [0], [0] + with_0)
        self.merge(text, began, store, own, mode, [1], [0] + with_1)

    def test_1_removed_in_the_store(self):
        for mode in BOTH_MODES:
            self.both_ways(ONE, [1, 3, 5, 5], [0], [1, 3, 5, 6], mode, [0], [1, 3, 5, 6])

    def test_2_removed_by_the_session(self):
        for mode in BOTH_MODES:
            self.both_ways(ONE, [1, 3, 5, 5], [1, 3, 5, 6], [0], mode, [1, 3, 5, 6], [0])

    def test_4_by_rows(self):
        self.both_ways(ONE, [1, 3, 5, 5], [1, 3, 6, 5], [1, 3, 5, 7], 0, [1, 3, 6, 5], [1, 3, 5, 7])
        self.both_ways(ONE, [1, 3, 5, 5], [1, 3, 6, 8], [1, 3, 7, 8], 0, [1, 3, 6, 8], [1, 3, 7, 8])
        self.both_ways(ONE, [0], [1, 3, 6, 5], [1, 3, 5, 7], 0, [1, 3, 6, 5], [1, 3, 5, 7])

    def test_0_by_fields(self):
        for choices, row in (([0, 0], [7, 8]), ([0, 1], [7, 10]), ([1, 0], [9, 8]), ([1, 1], [9, 10])):
            self.merge(ONE, [1, 3, 5, 6], [1, 3, 7, 8], [1, 3, 9, 10], 1, choices, [0, 1, 3] + row)

    def test_0_beside_columns_that_only_one_changed(self):
        self.both_ways(THREE, [1, 3, 1, 2, 3], [1, 3, 4, 5, 3], [1, 3, 1, 6, 7], 1, [1, 3, 4, 5, 7], [1, 3, 4, 6, 7])
        self.both_ways(THREE, [1, 3, 1, 2, 3], [1, 3, 4, 2, 8], [1, 3, 5, 6, 8], 1, [1, 3, 4, 6, 8], [1, 3, 5, 6, 8])
        self.both_ways(THREE, [1, 3, 1, 2, 3], [1, 3, 1, 5, 0], [1, 3, 1, 2, 1], 1, [1, 3, 1, 5, 0], [1, 3, 1, 5, 1])

    def test_3_by_fields(self):
        for choices, row in (([0, 0], [7, 8]), ([0, 1], [7, 10]), ([1, 0], [9, 8]), ([1, 1], [9, 10])):
            self.merge(ONE, [0], [1, 3, 7, 8], [1, 3, 9, 10], 1, choices, [0, 1, 3] + row)
        self.both_ways(THREE, [0], [1, 3, 7, 0, 8], [1, 3, 7, 4, 8], 1, [1, 3, 7, 0, 8], [1, 3, 7, 4, 8])

    def test_choices_go_by_the_order_of_clashes(self):
        began = [3, 2, 1, 1, 4, 2, 2, 9, 3, 3, 1, 1, 5]
        store = [3, 2, 6, 6, 3, 5, 5, 9, 8, 3, 2, 1, 6, 4, 0]
        own = [4, 2, 7, 7, 3, 5, 6, 4, 0, 0, 8, 0, 0, 2, 1, 7, 4, 1]
        # By rows: 2, 3, 4 and 9 of the first table, 1 and 4 of the other one; 8 is the session's alone.
        self.merge(TWO, began, store, own, 0, [1, 0, 1, 1, 0, 1],
                   [0, 4, 2, 7, 7, 3, 5, 5, 4, 0, 0, 8, 0, 0, 2, 1, 6, 4, 1])
        self.merge(TWO, began, store, own, 0, [0, 1, 0, 0, 1, 0],
                   [0, 4, 2, 6, 6, 3, 5, 6, 8, 0, 0, 9, 8, 3, 2, 1, 7, 4, 0])
        # By fields the row 2 has two clashes.
        self.merge(TWO, began, store, own, 1, [1, 0, 0, 1, 1, 0, 1],
                   [0, 4, 2, 7, 6, 3, 5, 5, 4, 0, 0, 8, 0, 0, 2, 1, 6, 4, 1])
        self.merge(TWO, began, store, own, 1, [0, 1, 1, 0, 0, 1, 0],
                   [0, 4, 2, 6, 7, 3, 5, 6, 8, 0, 0, 9, 8, 3, 2, 1, 7, 4, 0])


class EachRow(unittest.TestCase):
    """Every way in which a row with two columns may be on three sides, and all its choices."""

    def test_each_row(self):
        rows = [None] + list(itertools.product((0, 1, 2), repeat=2))
        for began, store, own in itertools.product(rows, repeat=3):
            begin = sides(ONE, told(began), told(store), told(own))
            for mode in BOTH_MODES:
                places = clashing(began, store, own, mode)
                for choices in itertools.product((0, 1), repeat=len(places)):
                    row = merged_row(began, store, own, mode, dict(zip(places, choices)))
                    self.assertEqual(behind(begin, merged(0, mode, choices)), [[0] + told(row)],
                                     (began, store, own, mode, choices))


def told(row):
    return [0] if row is None else [1, 3] + list(row)


def clashing(began, store, own, mode):
    """What clashes of a row: itself, or by fields its columns, if it's there on both sides."""
    if store == began or own == began or store == own:
        return []
    if mode == 0 or store is None or own is None:
        return ["row"]
    return [column for column in (0, 1) if store[column] != own[column]
            and (began is None or began[column] not in (store[column], own[column]))]


def merged_row(began, store, own, mode, chosen):
    if "row" in chosen:
        return (store, own)[chosen["row"]]
    if own == began:
        return store
    if store == began or store == own:
        return own
    row = []
    for column in (0, 1):
        if column in chosen:
            row.append((store, own)[chosen[column]][column])
        else:
            changed = store[column] != own[column] and own[column] != began[column]
            row.append(own[column] if changed else store[column])
    return tuple(row)


class NotAsManyChoices(Merging):
    def test_1_and_how_many_clashes_there_are(self):
        for mode, count in ((0, 1), (1, 2)):
            for choices in ([], [0], [1, 1], [0] * 3, [1] * 5000):
                if len(choices) != count:
                    self.merge(ONE, [1, 3, 5, 6], [1, 3, 7, 8], [1, 3, 9, 10], mode, choices, [1, count])

    def test_where_there_is_no_clash(self):
        for mode in BOTH_MODES:
            self.merge(ONE, [1, 3, 5, 6], [1, 3, 5, 6], [1, 3, 9, 10], mode, [0], [1, 0])
            self.assertEqual(ask(merged(0, mode, [1])), [[1, 0]])


class NotGood(Merging):
    def test_2_out_of_range(self):
        # No call makes a side hold a value out of its column's range, so here one is put in its place.
        for mode in BOTH_MODES:
            for value in (-1, 10):
                held = Held()
                held.load(as_bytes("table t{a:number;}table u{a:number;b:number from 0 to 9 unique;}"))
                held.store = read_tables(held.schema, [1, 4, value, 2, 4, 0, 9, 5, 0, value])
                self.assertEqual(held.merged(0, mode, []), [2, 2, 1, 5, 1])
                held.own[0] = read_tables(held.schema, [0, 1, 6, 0, value])
                self.assertEqual(held.merged(0, mode, []), [2, 2, 1, 5, 1])

    def test_3_a_row_that_is_not_there(self):
        text = "table t{a:number;b:ref u none;}table u{}"
        for mode in BOTH_MODES:
            # The store lost the row of the other table to which the session's row refers from now on.
            self.merge(text, [1, 4, 0, 0, 2, 7, 8], [1, 4, 0, 0, 1, 7], [1, 4, 0, 8, 2, 7, 8],
                       mode, [], [2, 3, 0, 4, 1])
            # And the other way round.
            self.merge(text, [1, 4, 0, 0, 2, 7, 8], [1, 4, 0, 8, 2, 7, 8], [1, 4, 0, 0, 1, 7],
                       mode, [], [2, 3, 0, 4, 1])

    def test_3_by_a_choice(self):
        text = "table t{a:ref t none;}"
        began, store, own = [2, 4, 0, 5, 0], [1, 4, 0], [2, 4, 5, 5, 5]
        for mode in BOTH_MODES:
            self.merge(text, began, store, own, mode, [0], [2, 3, 0, 4, 0])
            self.merge(text, began, store, own, mode, [1], [0, 2, 4, 5, 5, 5])

    def test_4_the_same_value_twice(self):
        text = "table t{a:number;b:number unique;}"
        for mode in BOTH_MODES:
            self.merge(text, [0], [1, 2, 0, 7], [1, 3, 0, 7], mode, [], [2, 4, 0, 2, 1])
            self.merge(text, [2, 2, 0, 5, 3, 0, 6], [2, 2, 0, 7, 3, 0, 6], [2, 2, 0, 5, 3, 0, 7], mode, [],
                       [2, 4, 0, 2, 1])

    def test_the_first_row_by_tables_and_then_by_ids(self):
        text = "table t{a:number;b:number unique;}table u{c:ref t none;d:number unique;}"
        for mode in BOTH_MODES:
            self.merge(text, [1, 9, 0, 0, 1, 5, 0, 0], [1, 9, 0, 1, 2, 4, 0, 6, 5, 0, 0],
                       [1, 9, 0, 0, 2, 5, 0, 0, 6, 0, 6], mode, [], [2, 4, 1, 4, 1])
            self.merge(text, [1, 9, 0, 0, 1, 5, 0, 0], [1, 9, 0, 1, 2, 4, 9, 6, 5, 0, 0], [0, 1, 5, 0, 7],
                       mode, [0], [0, 1, 9, 0, 1, 2, 4, 9, 6, 5, 0, 7])
            self.merge(text, [1, 9, 0, 0, 1, 5, 0, 0], [1, 9, 0, 1, 2, 4, 9, 6, 5, 0, 0], [0, 2, 5, 0, 7, 6, 0, 6],
                       mode, [1], [2, 3, 1, 4, 0])

    def test_5_more_than_eight_rows(self):
        first, other = [8, 1, 2, 3, 4, 5, 6, 7, 8], [8, 1, 2, 3, 4, 5, 6, 7, 9]
        for mode in BOTH_MODES:
            self.merge(BARE, [0, 0], first + [0], other + [0], mode, [], [2, 5, 0, 0, 0])
            self.merge(BARE, [0, 0], [0] + first, [0] + other, mode, [], [2, 5, 1, 0, 0])
            self.merge(BARE, [0, 0], first + first, other + other, mode, [], [2, 5, 0, 0, 0])
            self.merge(BARE, [0, 0], [4, 1, 2, 3, 4, 0], [4, 5, 6, 7, 8, 0], mode, [], [0] + first + [0])

    def test_5_goes_by_what_is_chosen(self):
        began = [8] + [number for row_id in range(1, 9) for number in (row_id, 0)]
        store = [8] + [number for row_id in range(2, 10) for number in (row_id, 0)]
        own = [8] + [1, 1] + began[3:]
        for mode in BOTH_MODES:
            self.merge("table t{a:number;}", began, store, own, mode, [0], [0] + store)
            self.merge("table t{a:number;}", began, store, own, mode, [1], [2, 5, 0, 0, 0])

    def test_5_is_looked_at_ahead_of_the_rules(self):
        text = "table t{a:number unique;}table u{}"
        for mode in BOTH_MODES:
            self.merge(text, [0, 0], [1, 1, 7, 8, 1, 2, 3, 4, 5, 6, 7, 8], [1, 2, 7, 1, 9], mode, [], [2, 5, 1, 0, 0])
            self.merge(text, [0, 0], [1, 1, 7, 7, 1, 2, 3, 4, 5, 6, 7], [1, 2, 7, 1, 9], mode, [], [2, 4, 0, 1, 0])


class ChangesNothing(unittest.TestCase):
    def test_all_is_as_it_was(self):
        begin = sides(TWO, [1, 1, 5, 5, 0], [1, 1, 6, 6, 1, 2, 2], [2, 1, 7, 5, 9, 0, 0, 0])
        before = behind(begin, *ALL_HELD)
        asked = (merged(0, 0, [0]), merged(0, 0, [1]), merged(0, 1, [1]), merged(1, 1), merged(0, 1), merged(2, 0))
        self.assertEqual(ask(*begin, *asked, *ALL_HELD)[-len(ALL_HELD):], before)


if __name__ == "__main__":
    unittest.main()
