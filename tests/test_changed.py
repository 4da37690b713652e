import unittest

from tests.helpers import ALL_HELD, ask, behind, changed, commit, fill, last, load, refresh, set_own, sides

TWO = "table t{a:number;b:number;}table u{c:number;}"


class Changed(unittest.TestCase):
    def test_none(self):
        self.assertEqual(ask(changed(0), changed(1)), [[0, 0], [0, 0]])
        self.assertEqual(last(load(TWO), fill([1, 1, 2, 3, 1, 1, 4]), changed(0)), [0, 0])

    def test_each_sort_over_several_tables(self):
        begin = (load(TWO), fill([3, 2, 5, 5, 4, 6, 6, 9, 7, 7, 2, 1, 1, 2, 2]),
                 set_own(0, [4, 1, 0, 0, 2, 5, 5, 4, 6, 0, 10, 7, 7, 2, 2, 3, 7, 1]))
        self.assertEqual(last(*begin, changed(0)),
                         [0, 7, 0, 0, 1, 1, 0, 4, 2, 0, 9, 0, 0, 10, 2, 1, 1, 1, 1, 2, 0, 1, 7])
        self.assertEqual(last(*begin, changed(1)), [0, 0])

    def test_one_column_is_enough(self):
        begin = (load(TWO), fill([1, 2, 5, 5, 0]))
        self.assertEqual(last(*begin, set_own(1, [1, 2, 5, 6, 0]), changed(1)), [0, 1, 1, 0, 2])
        self.assertEqual(last(*begin, set_own(1, [1, 2, 6, 5, 0]), changed(1)), [0, 1, 1, 0, 2])

    def test_rows_without_columns(self):
        self.assertEqual(last(load("table t{}"), fill([2, 1, 2]), set_own(0, [2, 2, 3]), changed(0)),
                         [0, 2, 2, 0, 1, 0, 0, 3])

    def test_a_set_back_is_no_change(self):
        begin = (load(TWO), fill([1, 2, 5, 5, 0]), set_own(0, [0, 0]))
        self.assertEqual(last(*begin, changed(0)), [0, 1, 2, 0, 2])
        self.assertEqual(last(*begin, set_own(0, [1, 2, 5, 5, 0]), changed(0)), [0, 0])

    def test_the_store_does_not_count(self):
        # The session 0 changed the row 2 of the first table alone, whatever is in the store by now.
        begin = sides(TWO, [2, 1, 5, 5, 2, 6, 6, 1, 1, 4], [1, 2, 7, 7, 2, 1, 0, 3, 4], [2, 1, 5, 5, 2, 6, 8, 1, 1, 4])
        self.assertEqual(behind(begin, changed(0), changed(1)), [[0, 1, 1, 0, 2], [0, 0]])

    def test_behind_a_commit_none(self):
        begin = (load(TWO), fill([1, 1, 5, 5, 0]), set_own(0, [0, 1, 1, 4]), set_own(1, [1, 1, 5, 5, 1, 2, 4]))
        self.assertEqual(behind(begin, changed(0), commit(0, 0), changed(0), changed(1)),
                         [[0, 2, 2, 0, 1, 0, 1, 1], [0, 2], [0, 0], [0, 1, 0, 1, 2]])

    def test_behind_a_refresh_what_is_otherwise_than_in_the_store(self):
        begin = sides(TWO, [1, 1, 5, 5, 0], [1, 1, 6, 6, 0], [1, 1, 7, 5, 1, 1, 4])
        self.assertEqual(behind(begin, changed(0), refresh(0, 1, [1]), changed(0)),
                         [[0, 2, 1, 0, 1, 0, 1, 1], [0, 1], [0, 2, 1, 0, 1, 0, 1, 1]])
        self.assertEqual(behind(begin, refresh(0, 1, [0]), changed(0)), [[0, 1], [0, 1, 0, 1, 1]])

    def test_changed_changes_nothing(self):
        begin = sides(TWO, [1, 1, 5, 5, 0], [1, 1, 6, 6, 0], [1, 1, 7, 5, 1, 1, 4])
        self.assertEqual(behind(begin, changed(0), changed(1), changed(2), *ALL_HELD)[3:], behind(begin, *ALL_HELD))

    def test_no_session(self):
        for session in (-1, 2, 10 ** 18, -10 ** 18):
            self.assertEqual(ask(changed(session)), [[-3]])


if __name__ == "__main__":
    unittest.main()
