import unittest

from tests.helpers import (ALL_HELD, ask, behind, commit, fill, load, load_numbers, refresh, set_own, sides, size,
                           tables)

ONE = "table t{a:number;b:number;}"
TWO = "table t{a:number;b:number;}table u{c:number;}"


class Tables(unittest.TestCase):
    def test_without_rows(self):
        self.assertEqual(ask(tables(0), tables(1), tables(2)), [[0], [0], [0]])
        self.assertEqual(ask(load(TWO), tables(0), tables(1), tables(2))[1:],
                         [[0, 0, 0, 0, 0], [0, 0, 0, 0, 0], [0, 0, 0]])

    def test_each_side(self):
        began, store, own = [2, 1, 5, 5, 9, 6, -6, 1, 99, 4], [0, 1, 4, 1000000], [1, 9, 0, 7, 0]
        for session in (0, 1):
            begin = sides(TWO, began, store, own, session)
            self.assertEqual(behind(begin, tables(session), tables(1 - session), tables(2)),
                             [[0] + began + own, [0] + store + store, [0] + store])

    def test_behind_a_fill_and_a_load(self):
        begin = sides(ONE, [1, 1, 5, 5], [1, 1, 6, 6], [1, 1, 7, 7]) + (fill([1, 2, 3, 4]),)
        self.assertEqual(behind(begin, tables(0), tables(1), tables(2)),
                         [[0, 1, 2, 3, 4, 1, 2, 3, 4], [0, 1, 2, 3, 4, 1, 2, 3, 4], [0, 1, 2, 3, 4]])
        self.assertEqual(behind(begin + (load(TWO),), tables(0), tables(1), tables(2)),
                         [[0, 0, 0, 0, 0], [0, 0, 0, 0, 0], [0, 0, 0]])

    def test_eight_rows_without_columns(self):
        rows = [8, 1, 2, 3, 4, 5, 6, 7, 99, 0]
        self.assertEqual(ask(load("table t{}table u{}"), fill(rows), tables(2), tables(1))[2:],
                         [[0] + rows, [0] + rows * 2])

    def test_it_changes_nothing(self):
        begin = sides(ONE, [1, 1, 5, 5], [1, 1, 6, 6], [1, 1, 7, 7])
        self.assertEqual(behind(begin, *ALL_HELD, *ALL_HELD)[len(ALL_HELD):], behind(begin, *ALL_HELD))

    def test_no_side(self):
        for side in (-1, 3, 10 ** 18, -10 ** 18):
            self.assertEqual(ask(tables(side), load(ONE), fill([1, 1, 5, 5]), tables(side)),
                             [[-3], [0, 1, 2], [0], [-3]])


class Size(unittest.TestCase):
    def test_at_the_beginning(self):
        self.assertEqual(ask(size(), load(TWO), size()), [[0, 0, 0, 0], [0, 2, 3], [0, 0, 0, 0]])

    def test_how_many_rows_each_session_changed(self):
        begin = (load(TWO), fill([2, 1, 5, 5, 2, 6, 6, 1, 1, 4]))
        self.assertEqual(behind(begin, set_own(0, [2, 1, 5, 6, 3, 6, 6, 0]), size(),
                                set_own(1, [2, 1, 5, 5, 2, 6, 6, 0]), size()),
                         [[0], [0, 0, 4, 0], [0], [0, 0, 4, 1]])

    def test_behind_commits_and_refreshes(self):
        begin = (load(ONE), fill([1, 1, 5, 5]), set_own(0, [1, 1, 7, 5]), set_own(1, [2, 1, 5, 8, 2, 0, 0]))
        self.assertEqual(behind(begin, size(), commit(0, 0), size(), refresh(1, 1), size(), commit(1, 1), size(),
                                refresh(0, 0), size()),
                         [[0, 0, 1, 2], [0, 1], [0, 1, 0, 2], [0, 1], [0, 1, 0, 2], [0, 2], [0, 2, 0, 0],
                          [0, 2], [0, 2, 0, 0]])

    def test_no_commits_were_made_behind_a_fill_and_a_load(self):
        begin = (load(ONE), commit(0, 0), commit(1, 1), set_own(1, [1, 1, 5, 5]))
        self.assertEqual(behind(begin, size(), fill([0]), size()), [[0, 2, 0, 1], [0], [0, 0, 0, 0]])
        self.assertEqual(behind(begin, load(ONE), size(), commit(0, 0), size()),
                         [[0, 1, 2], [0, 0, 0, 0], [0, 0], [0, 1, 0, 0]])

    def test_commits_stay_behind_a_set_and_behind_what_is_refused(self):
        begin = (load("table t{a:number from 0 to 9;}"), commit(0, 0))
        told = behind(begin, set_own(0, [1, 1, 5]), fill([1, 1, 10]), fill([9]), load("table"), load_numbers([-1]),
                      load_numbers([32] * 4097), commit(0, 2), commit(0, 0, [1]), size())
        self.assertEqual(told, [[0], [1, 2, 0, 1, 0], [-4], [1, 4, 5], [-1], [-2], [-8], [1, 0], [0, 1, 1, 0]])

    def test_a_hundred_calls(self):
        self.assertEqual(ask(*[commit(0, 0)] * 99, size())[-1], [0, 99, 0, 0])


if __name__ == "__main__":
    unittest.main()
