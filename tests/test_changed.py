import unittest

from tests.helpers import ask, changed, fill, last, load, set_own

TWO = "table t{a:number;b:number;}table u{c:number;}"


class Changed(unittest.TestCase):
    def test_none(self):
        self.assertEqual(ask(changed(0), changed(1)), [[0, 0], [0, 0]])
        self.assertEqual(last(load(TWO), fill([1, 1, 2, 3, 1, 1, 4]), changed(0)), [0, 0])

    def test_each_sort_over_several_tables(self):
        begin = (load(TWO), fill([3, 2, 5, 5, 4, 6, 6, 9, 7, 7, 2, 1, 1, 2, 2]),
                 set_own(0, [4, 1, 0, 0, 2, 5, 5, 4, 6, 0, 10, 7, 7, 2, 2, 3, 7, 1]))
        self.assertEqual(last(*begin, changed(0)),
                         [0, 7, 0, 0, 1, 1, 0, 4, 2, 0, 9, 0, 0, 10, 2, 1, 1, 1, 1, 2, 0, 1, 7])
        self.assertEqual(last(*begin, changed(1)), [0, 0])

    def test_one_column_is_enough(self):
        begin = (load(TWO), fill([1, 2, 5, 5, 0]))
        self.assertEqual(last(*begin, set_own(1, [1, 2, 5, 6, 0]), changed(1)), [0, 1, 1, 0, 2])
        self.assertEqual(last(*begin, set_own(1, [1, 2, 6, 5, 0]), changed(1)), [0, 1, 1, 0, 2])

    def test_rows_without_columns(self):
        self.assertEqual(last(load("table t{}"), fill([2, 1, 2]), set_own(0, [2, 2, 3]), changed(0)),
                         [0, 2, 2, 0, 1, 0, 0, 3])

    def test_a_set_back_is_no_change(self):
        begin = (load(TWO), fill([1, 2, 5, 5, 0]), set_own(0, [0, 0]))
        self.assertEqual(last(*begin, changed(0)), [0, 1, 2, 0, 2])
        self.assertEqual(last(*begin, set_own(0, [1, 2, 5, 5, 0]), changed(0)), [0, 0])

    def test_no_session(self):
        for session in (-1, 2, 10 ** 18, -10 ** 18):
            self.assertEqual(ask(changed(session)), [[-3]])


if __name__ == "__main__":
    unittest.main()
