"""What merged, commit and refresh answer alike where nothing is merged, and that all is as it was then."""

import unittest

from tests.helpers import ALL_HELD, behind, commit, merged, refresh, sides

BARE = "table t{}"
UNIQUE = "table t{a:number;b:number unique;}"
BIG = 10 ** 18


class NotMerged(unittest.TestCase):
    def refuses(self, begin, session, mode, choices, answer):
        before = behind(begin, *ALL_HELD)
        for call in (merged, commit, refresh):
            told = behind(begin, call(session, mode, choices), *ALL_HELD)
            self.assertEqual(told, [answer] + before, (call.__name__, session, mode, choices))

    def test_no_session_no_mode_no_choice(self):
        begin = sides(UNIQUE, [1, 1, 5, 5], [1, 1, 6, 6], [1, 1, 7, 7])
        for wrong in (-1, 2, BIG, -BIG):
            self.refuses(begin, wrong, 0, [0], [-3])
            for session in (0, 1):
                self.refuses(begin, session, wrong, [0], [-8])
                self.refuses(begin, session, 0, [wrong], [-12])
                self.refuses(begin, session, 1, [0, wrong], [-12])
                self.refuses(begin, session, 1, [wrong, 1], [-12])

    def test_not_as_many_choices(self):
        begin = sides(UNIQUE, [1, 1, 5, 5], [1, 1, 6, 6], [1, 1, 7, 7])
        for choices in ([], [0, 0], [1] * 5000):
            self.refuses(begin, 0, 0, choices, [1, 1])
        for choices in ([], [1], [0, 0, 0]):
            self.refuses(begin, 0, 1, choices, [1, 2])
        self.refuses(begin, 1, 0, [0], [1, 0])

    def test_broken_rules(self):
        begin = sides("table t{a:ref t none;}", [2, 4, 0, 5, 0], [1, 4, 0], [2, 4, 5, 5, 0])
        self.refuses(begin, 0, 0, [], [2, 3, 0, 4, 0])
        begin = sides(UNIQUE, [0], [1, 2, 0, 5], [1, 1, 0, 5])
        self.refuses(begin, 0, 1, [], [2, 4, 0, 1, 1])

    def test_too_many_rows(self):
        for session in (0, 1):
            begin = sides(BARE, [0], [8, 1, 2, 3, 4, 5, 6, 7, 8], [1, 9], session)
            self.refuses(begin, session, 0, [], [2, 5, 0, 0, 0])
            self.refuses(begin, session, 1, [], [2, 5, 0, 0, 0])

    def test_the_order(self):
        # There's a clash, and either choice would break a rule.
        begin = sides(UNIQUE, [1, 1, 5, 5], [2, 1, 6, 6, 2, 0, 0], [2, 1, 7, 6, 3, 0, 0])
        for wrong in (-1, 2, BIG, -BIG):
            self.refuses(begin, wrong, wrong, [wrong], [-3])
            self.refuses(begin, wrong, 0, [wrong], [-3])
            self.refuses(begin, wrong, wrong, [0], [-3])
            self.refuses(begin, 0, wrong, [wrong], [-8])
            self.refuses(begin, 0, wrong, [0, 1], [-8])
            self.refuses(begin, 0, 0, [wrong], [-12])
            self.refuses(begin, 0, 0, [0, 1, wrong], [-12])
        for choices in ([], [0, 1]):
            self.refuses(begin, 0, 0, choices, [1, 1])
        for choices in ([0], [1]):
            self.refuses(begin, 0, 0, choices, [2, 4, 0, 2, 1])

    def test_the_choices_go_ahead_of_too_many_rows(self):
        begin = sides(BARE, [0], [8, 1, 2, 3, 4, 5, 6, 7, 8], [1, 9])
        self.refuses(begin, 0, 0, [0], [1, 0])
        self.refuses(begin, 0, 0, [2], [-12])


if __name__ == "__main__":
    unittest.main()
