import unittest

from tests.helpers import ALL_HELD, ask, behind, commit, fill, load, orders, refresh, set_own, sides

ONE = "table t{a:number;b:number;}"
UNIQUE = "table t{a:number unique;}"
BARE = "table t{}"


class Orders(unittest.TestCase):
    def orders(self, begin, by_rows, by_fields):
        self.assertEqual(behind(begin, orders(0), orders(1)), [[by_rows], [by_fields]])

    def began_alike(self, text, rows, own, other):
        return (load(text), fill(rows), set_own(0, own), set_own(1, other))

    def test_1_where_nothing_changed(self):
        self.orders((), 1, 1)
        self.orders((load(ONE),), 1, 1)
        self.orders((load(ONE), fill([1, 1, 5, 5])), 1, 1)

    def test_1_where_only_one_changed(self):
        self.orders(self.began_alike(ONE, [1, 1, 5, 5], [1, 1, 6, 6], [1, 1, 5, 5]), 1, 1)
        self.orders(self.began_alike(ONE, [1, 1, 5, 5], [1, 1, 5, 5], [0]), 1, 1)

    def test_1_where_both_changed_other_rows_or_alike(self):
        self.orders(self.began_alike(ONE, [2, 1, 5, 5, 2, 6, 6], [2, 1, 7, 7, 2, 6, 6], [2, 1, 5, 5, 3, 0, 0]), 1, 1)
        self.orders(self.began_alike(ONE, [1, 1, 5, 5], [1, 1, 7, 7], [1, 1, 7, 7]), 1, 1)

    def test_both_changed_other_columns_of_a_row(self):
        self.orders(self.began_alike(ONE, [1, 1, 5, 5], [1, 1, 7, 5], [1, 1, 5, 8]), 2, 1)

    def test_2_where_both_changed_the_same(self):
        self.orders(self.began_alike(ONE, [1, 1, 5, 5], [1, 1, 7, 5], [1, 1, 8, 5]), 2, 2)
        self.orders(self.began_alike(ONE, [1, 1, 5, 5], [1, 1, 7, 5], [0]), 2, 2)
        self.orders(self.began_alike(ONE, [0], [1, 1, 7, 5], [1, 1, 7, 6]), 2, 2)

    def test_2_where_a_rule_would_be_broken(self):
        self.orders(self.began_alike(UNIQUE, [0], [1, 1, 5], [1, 2, 5]), 2, 2)
        self.orders(self.began_alike(BARE, [0], [8, 1, 2, 3, 4, 5, 6, 7, 8], [1, 9]), 2, 2)

    def test_2_where_the_very_first_commit_cannot_be_made(self):
        for session in (0, 1):
            self.orders(sides(ONE, [1, 1, 5, 5], [1, 1, 6, 6], [1, 1, 7, 7], session), 2, 2)

    def test_2_where_just_one_order_cannot_be_made(self):
        for session in (0, 1):
            other = 1 - session
            begin = sides(ONE, [1, 1, 5, 5], [1, 1, 6, 6], [1, 1, 7, 7], session)
            # The other one's commit would put the row back to what the session began with.
            self.orders(begin + (set_own(other, [1, 1, 5, 5]),), 2, 2)
            # What the session and the store have alike would be otherwise behind the other one's commit.
            self.orders(begin + (set_own(session, [1, 1, 6, 6]), set_own(other, [1, 1, 8, 8])), 2, 2)

    def began_unlike(self, session, began, store, own, other):
        """The session began with others than the store's, with which the other one began."""
        return sides(ONE, began, store, own, session) + (set_own(1 - session, other),)

    def test_0_where_they_began_unlike(self):
        for session in (0, 1):
            # Whoever commits last has its way: each finds the row as it began with it.
            self.orders(self.began_unlike(session, [1, 1, 7, 7], [1, 1, 5, 5], [1, 1, 5, 5], [1, 1, 7, 7]), 0, 0)
            self.orders(self.began_unlike(session, [1, 1, 7, 7], [0], [0], [1, 1, 7, 7]), 0, 0)
            self.orders(self.began_unlike(session, [0], [1, 1, 7, 7], [1, 1, 7, 7], [0]), 0, 0)

    def test_0_by_fields_alone(self):
        for session in (0, 1):
            self.orders(self.began_unlike(session, [1, 1, 7, 7], [1, 1, 5, 7], [1, 1, 5, 8], [1, 1, 7, 7]), 2, 0)

    def test_1_where_they_began_unlike(self):
        for session in (0, 1):
            self.orders(self.began_unlike(session, [1, 1, 7, 7], [1, 1, 5, 5], [1, 1, 7, 7], [1, 1, 8, 5]), 1, 1)

    def test_behind_a_refresh(self):
        begin = self.began_alike(ONE, [1, 1, 5, 5], [1, 1, 7, 5], [1, 1, 5, 8])
        self.orders(begin + (commit(0, 0), refresh(1, 1)), 1, 1)

    def test_it_changes_nothing(self):
        for begin in (self.began_alike(ONE, [2, 1, 5, 5, 2, 0, 0], [2, 1, 7, 5, 3, 0, 0], [1, 1, 5, 8]),
                      self.began_unlike(0, [1, 1, 7, 7], [1, 1, 5, 5], [1, 1, 5, 5], [1, 1, 7, 7])):
            self.assertEqual(behind(begin, orders(0), orders(1), orders(2), *ALL_HELD)[3:], behind(begin, *ALL_HELD))

    def test_no_mode(self):
        for mode in (-1, 2, 10 ** 18, -10 ** 18):
            self.assertEqual(ask(orders(mode)), [[-8]])
            self.assertEqual(ask(load(ONE), fill([1, 1, 5, 5]), set_own(0, [0]), orders(mode))[-1], [-8])


if __name__ == "__main__":
    unittest.main()
