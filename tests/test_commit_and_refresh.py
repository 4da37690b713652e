import unittest

from tests.helpers import behind, changed, clashes, commit, fill, load, merged, refresh, set_own, sides, size, tables

ONE = "table t{a:number;b:number;}"
TWO = "table t{a:number;b:number;}table u{c:number;}"
BOTH_MODES = (0, 1)

# What a session began with, the store and the session; then a mode, choices, and the merged tables' rows.
BEGAN, STORE, OWN = [2, 1, 5, 5, 2, 6, 6, 1, 1, 4], [2, 1, 7, 5, 2, 0, 6, 0], [2, 1, 8, 6, 2, 6, 6, 1, 1, 4]
MERGES = ((0, [0], [2, 1, 7, 5, 2, 0, 6, 0]), (0, [1], [2, 1, 8, 6, 2, 0, 6, 0]),
          (1, [0], [2, 1, 7, 6, 2, 0, 6, 0]), (1, [1], [2, 1, 8, 6, 2, 0, 6, 0]))


class HowManyRows(unittest.TestCase):
    def counts(self, call, began, store, own, mode, choices, count):
        for session in (0, 1):
            self.assertEqual(behind(sides(TWO, began, store, own, session), call(session, mode, choices)),
                             [[0, count]], (began, store, own, mode, choices))


class RowsOfCommit(HowManyRows):
    def test_none(self):
        for mode in BOTH_MODES:
            self.counts(commit, [0, 0], [0, 0], [0, 0], mode, [], 0)
            # What's otherwise since the session began isn't otherwise by this commit.
            self.counts(commit, [1, 1, 5, 5, 0], [1, 1, 6, 6, 1, 2, 2], [1, 1, 5, 5, 0], mode, [], 0)

    def test_rows_added_altered_and_removed(self):
        for mode in BOTH_MODES:
            self.counts(commit, [3, 1, 5, 5, 2, 6, 6, 3, 7, 7, 1, 1, 4], [3, 1, 5, 5, 2, 6, 6, 3, 7, 7, 1, 1, 4],
                        [3, 2, 6, 6, 3, 7, 8, 4, 0, 0, 2, 1, 5, 2, 0], mode, [], 5)

    def test_rows_that_both_changed_alike_do_not_count(self):
        for mode in BOTH_MODES:
            self.counts(commit, [2, 1, 5, 5, 2, 6, 6, 0], [2, 1, 7, 7, 3, 0, 0, 0], [3, 1, 7, 7, 3, 0, 0, 4, 0, 0, 0],
                        mode, [], 1)

    def test_it_goes_by_what_is_chosen(self):
        began, store, own = [2, 1, 5, 5, 2, 6, 6, 0], [1, 1, 7, 7, 0], [2, 1, 8, 8, 2, 6, 9, 0]
        self.counts(commit, began, store, own, 0, [0, 0], 0)
        self.counts(commit, began, store, own, 0, [1, 0], 1)
        self.counts(commit, began, store, own, 0, [1, 1], 2)
        self.counts(commit, began, store, own, 1, [0, 0, 0], 0)
        # Both columns of the row 1 are one row.
        self.counts(commit, began, store, own, 1, [1, 1, 0], 1)
        self.counts(commit, began, store, own, 1, [0, 1, 1], 2)


class RowsOfRefresh(HowManyRows):
    def test_none(self):
        for mode in BOTH_MODES:
            self.counts(refresh, [0, 0], [0, 0], [0, 0], mode, [], 0)
            # What the session changed isn't otherwise by this refresh.
            self.counts(refresh, [1, 1, 5, 5, 0], [1, 1, 5, 5, 0], [1, 1, 6, 6, 1, 2, 2], mode, [], 0)

    def test_rows_added_altered_and_removed(self):
        for mode in BOTH_MODES:
            self.counts(refresh, [3, 1, 5, 5, 2, 6, 6, 3, 7, 7, 1, 1, 4], [3, 2, 6, 6, 3, 7, 8, 4, 0, 0, 2, 1, 5, 2, 0],
                        [3, 1, 5, 5, 2, 6, 6, 3, 7, 7, 1, 1, 4], mode, [], 5)

    def test_rows_that_both_changed_alike_do_not_count(self):
        for mode in BOTH_MODES:
            self.counts(refresh, [2, 1, 5, 5, 2, 6, 6, 0], [3, 1, 7, 7, 3, 0, 0, 4, 0, 0, 0], [2, 1, 7, 7, 3, 0, 0, 0],
                        mode, [], 1)

    def test_it_goes_by_what_is_chosen(self):
        began, store, own = [2, 1, 5, 5, 2, 6, 6, 0], [1, 1, 7, 7, 0], [2, 1, 8, 8, 2, 6, 9, 0]
        self.counts(refresh, began, store, own, 0, [1, 1], 0)
        self.counts(refresh, began, store, own, 0, [1, 0], 1)
        self.counts(refresh, began, store, own, 0, [0, 0], 2)
        self.counts(refresh, began, store, own, 1, [1, 1, 1], 0)
        self.counts(refresh, began, store, own, 1, [0, 0, 1], 1)
        self.counts(refresh, began, store, own, 1, [0, 1, 0], 2)


class Commit(unittest.TestCase):
    def test_the_merged_tables_are_the_stores_and_the_sessions(self):
        for session in (0, 1):
            begin = sides(TWO, BEGAN, STORE, OWN, session)
            for mode, choices, rows in MERGES:
                told = behind(begin, merged(session, mode, choices), commit(session, mode, choices),
                              tables(2), tables(session), tables(1 - session), changed(session))
                self.assertEqual(told[0], [0] + rows)
                # The other session is as it was: it began with what it put in the store.
                self.assertEqual(told[2:], [[0] + rows, [0] + rows + rows, [0] + STORE + STORE, [0, 0]])

    def test_the_other_session_stays_as_it_was(self):
        begin = (load(ONE), fill([1, 1, 5, 5]), set_own(0, [1, 1, 6, 6]), set_own(1, [1, 1, 5, 7]))
        self.assertEqual(behind(begin, tables(1), commit(0, 0), tables(1), tables(0), clashes(1, 1)),
                         [[0, 1, 1, 5, 5, 1, 1, 5, 7], [0, 1], [0, 1, 1, 5, 5, 1, 1, 5, 7],
                          [0, 1, 1, 6, 6, 1, 1, 6, 6], [0, 1, 0, 0, 1, 1, 5, 6, 7]])

    def test_a_commit_counts(self):
        begin = (load(ONE), fill([1, 1, 5, 5]), set_own(0, [1, 1, 6, 6]))
        self.assertEqual(behind(begin, size(), commit(0, 1), size(), commit(0, 0), commit(1, 0), size()),
                         [[0, 0, 1, 0], [0, 1], [0, 1, 0, 0], [0, 0], [0, 0], [0, 3, 0, 0]])

    def test_what_is_changed_later_is_of_the_session_alone(self):
        begin = (load(ONE), fill([1, 1, 5, 5]), set_own(0, [1, 1, 6, 6]), commit(0, 0), set_own(0, [0]))
        self.assertEqual(behind(begin, tables(0), tables(1), tables(2)),
                         [[0, 1, 1, 6, 6, 0], [0, 1, 1, 5, 5, 1, 1, 5, 5], [0, 1, 1, 6, 6]])

    def test_it_can_be_committed_again_and_again(self):
        begin = (load(ONE), fill([1, 1, 5, 5]), set_own(0, [1, 1, 6, 5]), commit(0, 1), set_own(1, [1, 1, 5, 6]))
        self.assertEqual(behind(begin, commit(1, 1), tables(2), commit(0, 1), tables(0), set_own(0, [0]), commit(0, 0),
                                tables(2), size()),
                         [[0, 1], [0, 1, 1, 6, 6], [0, 0], [0, 1, 1, 6, 6, 1, 1, 6, 6], [0], [0, 1], [0, 0],
                          [0, 4, 0, 0]])


class Refresh(unittest.TestCase):
    def test_the_session_has_the_merged_tables_and_begins_with_the_stores(self):
        for session in (0, 1):
            begin = sides(TWO, BEGAN, STORE, OWN, session)
            for mode, choices, rows in MERGES:
                told = behind(begin, merged(session, mode, choices), refresh(session, mode, choices), tables(session))
                self.assertEqual(told[0], [0] + rows)
                self.assertEqual(told[2], [0] + STORE + rows)

    def test_the_store_the_commits_and_the_other_session_stay(self):
        for session in (0, 1):
            begin = sides(TWO, [1, 1, 5, 5, 0], [1, 1, 6, 5, 0], [1, 1, 5, 7, 1, 2, 2], session)
            watch = (tables(2), tables(1 - session))
            before = behind(begin, *watch)
            told = behind(begin, size(), refresh(session, 1), size(), *watch)
            self.assertEqual(told[0][1], 1)
            self.assertEqual(told[2][1], 1)
            self.assertEqual(told[3:], before)

    def test_then_it_can_be_committed(self):
        begin = sides(ONE, [1, 1, 5, 5], [1, 1, 6, 6], [1, 1, 7, 5])
        self.assertEqual(behind(begin, commit(0, 0), refresh(0, 1, [1]), changed(0), clashes(0, 0), commit(0, 0),
                                tables(2), size()),
                         [[1, 1], [0, 1], [0, 1, 1, 0, 1], [0, 0], [0, 1], [0, 1, 1, 7, 6], [0, 2, 0, 0]])

    def test_what_is_changed_later_is_of_the_session_alone(self):
        begin = (load(ONE), fill([1, 1, 5, 5]), set_own(0, [1, 1, 6, 6]), commit(0, 0), refresh(1, 0), set_own(1, [0]))
        self.assertEqual(behind(begin, tables(0), tables(1), tables(2)),
                         [[0, 1, 1, 6, 6, 1, 1, 6, 6], [0, 1, 1, 6, 6, 0], [0, 1, 1, 6, 6]])


if __name__ == "__main__":
    unittest.main()
