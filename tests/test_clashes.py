import unittest

from tests.helpers import ALL_HELD, ask, behind, clashes, commit, fill, last, load, refresh, set_own, sides

ONE = "table t{a:number;b:number;}"
TWO = "table t{a:number;b:number;}table u{c:number;}"


class Clashes(unittest.TestCase):
    def sides(self, text, began, store, own, by_rows, by_fields):
        for session in (0, 1):
            self.assertEqual(behind(sides(text, began, store, own, session), clashes(session, 0), clashes(session, 1)),
                             [[0, len(by_rows) // 7] + by_rows, [0, len(by_fields) // 7] + by_fields])

    def test_none_where_only_one_changed(self):
        self.sides(ONE, [1, 1, 5, 5], [1, 1, 6, 6], [1, 1, 5, 5], [], [])
        self.sides(ONE, [1, 1, 5, 5], [1, 1, 5, 5], [1, 1, 6, 6], [], [])
        self.sides(ONE, [1, 1, 5, 5], [0], [1, 1, 5, 5], [], [])
        self.sides(ONE, [1, 1, 5, 5], [1, 1, 5, 5], [0], [], [])
        self.sides(ONE, [0], [1, 1, 5, 5], [1, 2, 5, 5], [], [])

    def test_none_where_both_changed_alike(self):
        self.sides(ONE, [1, 1, 5, 5], [1, 1, 6, 5], [1, 1, 6, 5], [], [])
        self.sides(ONE, [1, 1, 5, 5], [0], [0], [], [])
        self.sides(ONE, [0], [1, 1, 6, 5], [1, 1, 6, 5], [], [])

    def test_1_removed_in_the_store(self):
        clash = [1, 0, 3, 0, 0, 0, 0]
        self.sides(ONE, [1, 3, 5, 5], [0], [1, 3, 5, 6], clash, clash)

    def test_2_removed_by_the_session(self):
        clash = [2, 0, 3, 0, 0, 0, 0]
        self.sides(ONE, [1, 3, 5, 5], [1, 3, 5, 6], [0], clash, clash)

    def test_4_or_0_there_on_all_sides(self):
        self.sides(ONE, [1, 3, 5, 6], [1, 3, 7, 8], [1, 3, 9, 10],
                   [4, 0, 3, 0, 0, 0, 0], [0, 0, 3, 0, 5, 7, 9, 0, 0, 3, 1, 6, 8, 10])
        self.sides(ONE, [1, 3, 5, 6], [1, 3, 5, 8], [1, 3, 9, 10],
                   [4, 0, 3, 0, 0, 0, 0], [0, 0, 3, 1, 6, 8, 10])
        self.sides(ONE, [1, 3, 5, 6], [1, 3, 7, 8], [1, 3, 7, -10],
                   [4, 0, 3, 0, 0, 0, 0], [0, 0, 3, 1, 6, 8, -10])

    def test_0_without_a_clash(self):
        self.sides(ONE, [1, 3, 5, 6], [1, 3, 7, 6], [1, 3, 5, 8], [4, 0, 3, 0, 0, 0, 0], [])
        self.sides(ONE, [1, 3, 5, 6], [1, 3, 7, 6], [1, 3, 7, 8], [4, 0, 3, 0, 0, 0, 0], [])

    def test_4_or_3_there_on_both_sides_but_not_before(self):
        self.sides(ONE, [0], [1, 3, 7, 8], [1, 3, 9, 10],
                   [4, 0, 3, 0, 0, 0, 0], [3, 0, 3, 0, 0, 7, 9, 3, 0, 3, 1, 0, 8, 10])
        self.sides(ONE, [0], [1, 3, 7, 8], [1, 3, 7, 0],
                   [4, 0, 3, 0, 0, 0, 0], [3, 0, 3, 1, 0, 8, 0])
        # A value of 0 is a change, too, where there was no row.
        self.sides(ONE, [0], [1, 3, 0, 8], [1, 3, 1, 8], [4, 0, 3, 0, 0, 0, 0], [3, 0, 3, 0, 0, 0, 1])

    def test_references_clash_like_numbers(self):
        self.sides("table t{a:ref t none;}", [2, 1, 0, 2, 0], [2, 1, 1, 2, 0], [2, 1, 2, 2, 0],
                   [4, 0, 1, 0, 0, 0, 0], [0, 0, 1, 0, 0, 1, 2])

    def test_rows_without_columns_never_clash(self):
        self.sides("table t{}", [1, 1], [2, 2, 3], [2, 2, 4], [], [])

    def test_the_order(self):
        began = [3, 2, 1, 1, 4, 2, 2, 9, 3, 3, 1, 1, 5]
        store = [3, 2, 6, 6, 3, 5, 5, 9, 8, 3, 2, 1, 6, 4, 0]
        own = [4, 2, 7, 7, 3, 5, 6, 4, 0, 0, 8, 0, 0, 2, 1, 7, 4, 1]
        self.sides(TWO, began, store, own,
                   [4, 0, 2, 0, 0, 0, 0, 4, 0, 3, 0, 0, 0, 0, 1, 0, 4, 0, 0, 0, 0, 2, 0, 9, 0, 0, 0, 0,
                    4, 1, 1, 0, 0, 0, 0, 4, 1, 4, 0, 0, 0, 0],
                   [0, 0, 2, 0, 1, 6, 7, 0, 0, 2, 1, 1, 6, 7, 3, 0, 3, 1, 0, 5, 6, 1, 0, 4, 0, 0, 0, 0,
                    2, 0, 9, 0, 0, 0, 0, 0, 1, 1, 0, 5, 6, 7, 3, 1, 4, 0, 0, 0, 1])

    def test_each_session_has_its_own(self):
        begin = sides(ONE, [1, 3, 5, 5], [0], [1, 3, 5, 6])
        self.assertEqual(behind(begin, clashes(0, 0), clashes(1, 0)), [[0, 1, 1, 0, 3, 0, 0, 0, 0], [0, 0]])

    def test_behind_a_refresh_there_is_none(self):
        begin = sides(ONE, [1, 3, 5, 5], [1, 3, 6, 6], [1, 3, 7, 5])
        self.assertEqual(behind(begin, clashes(0, 1), refresh(0, 1, [1]), clashes(0, 0), clashes(0, 1)),
                         [[0, 1, 0, 0, 3, 0, 5, 6, 7], [0, 1], [0, 0], [0, 0]])

    def test_clashes_of_both_sessions(self):
        # The store is otherwise than either began: each committed and then changed on.
        begin = (load(ONE), fill([1, 3, 5, 5]), set_own(0, [1, 3, 6, 5]), commit(0, 0), set_own(1, [1, 3, 5, 7]),
                 commit(1, 1), set_own(0, [1, 3, 6, 8]), set_own(1, [0]))
        self.assertEqual(behind(begin, clashes(0, 0), clashes(0, 1), clashes(1, 0), clashes(1, 1)),
                         [[0, 1, 4, 0, 3, 0, 0, 0, 0], [0, 1, 0, 0, 3, 1, 5, 7, 8], [0, 0], [0, 0]])

    def test_clashes_changes_nothing(self):
        begin = sides(ONE, [1, 3, 5, 5], [1, 3, 6, 6], [1, 3, 7, 5])
        self.assertEqual(behind(begin, clashes(0, 0), clashes(0, 1), clashes(9, 0), *ALL_HELD)[3:],
                         behind(begin, *ALL_HELD))

    def test_the_store_as_the_session_began(self):
        begin = (load(ONE), fill([1, 1, 5, 5]), set_own(0, [1, 1, 6, 6]))
        for session in (0, 1):
            for mode in (0, 1):
                self.assertEqual(last(*begin, clashes(session, mode)), [0, 0])
        self.assertEqual(ask(clashes(0, 0), clashes(1, 1)), [[0, 0], [0, 0]])

    def test_no_session_goes_ahead_of_no_mode(self):
        for number in (-1, 2, 10 ** 18, -10 ** 18):
            self.assertEqual(ask(clashes(number, 0), clashes(number, 1)), [[-3], [-3]])
            self.assertEqual(ask(clashes(number, number)), [[-3]])
            self.assertEqual(ask(clashes(0, number), clashes(1, number)), [[-8], [-8]])


if __name__ == "__main__":
    unittest.main()
