import unittest

from tests.helpers import ask, changed, clashes, fill, last, load, set_own

NUMBERS = "table t{a:number from 0 to 9;b:number from -5 to 5;}"
UNIQUE = "table t{a:number unique;b:number unique;}"
REFERENCES = "table t{a:ref u;b:ref u none unique;}table u{c:ref t none;}"


class Both(unittest.TestCase):
    """What is asked of fill and of set alike."""

    def both(self, text, rows, answer):
        self.assertEqual(ask(load(text), fill(rows))[1:], [answer], (text, rows))
        self.assertEqual(ask(load(text), set_own(0, rows))[1:], [answer], (text, rows))
        self.assertEqual(ask(load(text), set_own(1, rows))[1:], [answer], (text, rows))


class GoodTables(Both):
    def test_none_broken(self):
        self.both(NUMBERS, [0], [0])
        self.both(NUMBERS, [2, 1, 0, -5, 99, 9, 5], [0])
        self.both("table t{}table u{}", [3, 1, 2, 99, 0], [0])
        self.both("", [], [0])

    def test_ahead_of_any_load(self):
        self.assertEqual(ask(fill([]), set_own(1, []), fill([0]), set_own(0, [0])), [[0], [0], [-4], [-4]])

    def test_eight_rows(self):
        self.both("table t{}", [8, 1, 2, 3, 4, 5, 6, 7, 8], [0])

    def test_the_farthest_values(self):
        self.both("table t{a:number;}", [2, 1, 1000000, 2, -1000000], [0])

    def test_references_to_rows_that_are_there(self):
        self.both(REFERENCES, [2, 1, 7, 7, 2, 7, 0, 1, 7, 2], [0])
        self.both("table t{a:ref t;}", [2, 3, 4, 4, 3], [0])
        self.both("table t{a:ref t;}", [1, 3, 3], [0])


class BrokenRules(Both):
    def test_2_out_of_range(self):
        self.both(NUMBERS, [1, 4, 10, 0], [1, 2, 0, 4, 0])
        self.both(NUMBERS, [1, 4, -1, 0], [1, 2, 0, 4, 0])
        self.both(NUMBERS, [2, 4, 0, 0, 5, 9, 6], [1, 2, 0, 5, 1])
        self.both(NUMBERS, [2, 4, 0, 0, 5, 9, -6], [1, 2, 0, 5, 1])

    def test_3_a_row_that_is_not_there(self):
        self.both(REFERENCES, [1, 1, 8, 0, 1, 7, 0], [1, 3, 0, 1, 0])
        self.both(REFERENCES, [1, 1, 7, 8, 1, 7, 0], [1, 3, 0, 1, 1])
        self.both(REFERENCES, [1, 1, 7, 0, 1, 7, 2], [1, 3, 1, 7, 0])
        self.both(REFERENCES, [1, 1, 1000000, 0, 1, 7, 0], [1, 3, 0, 1, 0])

    def test_3_it_is_the_row_of_the_table_referred_to(self):
        self.both("table t{a:ref u;}table u{}", [1, 5, 5, 1, 6], [1, 3, 0, 5, 0])

    def test_3_none_where_none_is_not_allowed(self):
        self.both(REFERENCES, [1, 1, 0, 0, 1, 7, 0], [1, 3, 0, 1, 0])

    def test_3_below_0(self):
        self.both(REFERENCES, [1, 1, -1, 0, 1, 7, 0], [1, 3, 0, 1, 0])
        self.both(REFERENCES, [1, 1, 7, -7, 1, 7, 0], [1, 3, 0, 1, 1])

    def test_4_the_same_value_twice(self):
        self.both(UNIQUE, [2, 3, 5, 6, 4, 5, 7], [1, 4, 0, 3, 0])
        self.both(UNIQUE, [3, 3, 1, 6, 4, 5, 7, 5, 6, 7], [1, 4, 0, 4, 1])
        self.both(UNIQUE, [2, 3, 0, 6, 4, 0, 7], [1, 4, 0, 3, 0])
        self.both(UNIQUE, [2, 3, 1, 2, 4, 2, 1], [0])

    def test_4_references(self):
        self.both(REFERENCES, [2, 1, 7, 7, 2, 7, 7, 1, 7, 0], [1, 4, 0, 1, 1])
        self.both(REFERENCES, [2, 1, 7, 0, 2, 7, 0, 1, 7, 0], [0])

    def test_4_other_tables_do_not_count(self):
        self.both("table t{a:number unique;}table u{a:number unique;}", [1, 1, 5, 1, 1, 5], [0])

    def test_2_or_3_ahead_of_4_in_one_column(self):
        self.both("table t{a:number from 0 to 1 unique;}", [2, 1, 2, 2, 2], [1, 2, 0, 1, 0])
        self.both("table t{a:ref t unique;}", [2, 1, 9, 2, 9], [1, 3, 0, 1, 0])
        self.both("table t{a:ref t unique;}", [2, 1, 0, 2, 0], [1, 3, 0, 1, 0])

    def test_the_first_column_of_a_row(self):
        self.both("table t{a:number unique;b:number from 0 to 1;}", [2, 1, 5, 2, 2, 5, 1], [1, 4, 0, 1, 0])
        self.both("table t{a:number from 0 to 1;b:ref t;}", [1, 1, 2, 2], [1, 2, 0, 1, 0])

    def test_the_first_row(self):
        self.both(NUMBERS, [3, 1, 0, 0, 2, 0, 6, 3, 10, 0], [1, 2, 0, 2, 1])
        self.both("table t{}table u{a:number from 1 to 1;}table v{a:ref t;}",
                  [1, 9, 2, 8, 1, 9, 2, 1, 1, 1], [1, 2, 1, 9, 0])


class Form(Both):
    def test_too_few_or_too_many_numbers(self):
        for rows in ([], [1], [1, 1], [1, 1, 0], [2, 1, 0, 0], [2, 1, 0, 0, 2, 0], [0, 0], [1, 1, 0, 0, 0]):
            self.both(NUMBERS, rows, [-4])
        for rows in ([], [0], [1], [2, 1], [1, 1], [1, 1, 0, 0], [0, 1], [0, 0, 0]):
            self.both("table t{}table u{}", rows, [-4])
        self.both("", [0], [-4])

    def test_how_many_rows(self):
        self.both("table t{}", [9, 1, 2, 3, 4, 5, 6, 7, 8, 9], [-4])
        self.both("table t{}", [-1], [-4])
        self.both("table t{}", [-1, 1], [-4])
        self.both("table t{}table u{}", [-1, 1, 1], [-4])
        # With a count below 0 taken as it is, the others would come out right at the list's end.
        self.both("table t{a:number;b:number;c:number;d:number;}table u{}", [-1, 8, 1, 2, 3], [-4])
        self.both("table t{}", [10 ** 18], [-4])
        self.both("table t{}", [-10 ** 18], [-4])

    def test_ids(self):
        for row_id in (0, -1, 100, 10 ** 18, -10 ** 18):
            self.both("table t{}", [1, row_id], [-4])
        self.both("table t{}", [2, 2, 1], [-4])
        self.both("table t{}", [2, 2, 2], [-4])
        self.both("table t{}", [3, 1, 3, 2], [-4])
        self.both("table t{}table u{}", [2, 5, 6, 2, 1, 2], [0])

    def test_values(self):
        for value in (1000001, -1000001, 10 ** 18, -10 ** 18):
            self.both(NUMBERS, [1, 1, value, 0], [-4])
            self.both(NUMBERS, [1, 1, 0, value], [-4])
            self.both("table t{a:ref t;}", [1, 1, value], [-4])

    def test_the_form_goes_ahead_of_broken_rules(self):
        self.both(NUMBERS, [2, 1, 10, 0, 1, 0, 0], [-4])
        self.both(NUMBERS, [1, 1, 10, 0, 0], [-4])

    def test_the_session_goes_ahead_of_the_form(self):
        for session in (-1, 2, 10 ** 18, -10 ** 18):
            self.assertEqual(last(load(NUMBERS), set_own(session, [0])), [-3])
            self.assertEqual(last(load(NUMBERS), set_own(session, [9])), [-3])
            self.assertEqual(last(load(NUMBERS), set_own(session, [1, 1, 10, 0])), [-3])


class WhatIsHeld(unittest.TestCase):
    def test_behind_a_fill_both_sessions_begin_with_it(self):
        begin = (load(NUMBERS), set_own(0, [1, 1, 1, 1]), fill([1, 2, 3, 4]))
        self.assertEqual(ask(*begin, changed(0), changed(1))[-2:], [[0, 0], [0, 0]])
        for session in (0, 1):
            self.assertEqual(last(*begin, set_own(session, [0]), changed(session)), [0, 1, 2, 0, 2])
            self.assertEqual(last(*begin, set_own(session, [1, 2, 3, 4]), changed(session)), [0, 0])
            self.assertEqual(last(*begin, set_own(session, [1, 2, 3, 5]), changed(session)), [0, 1, 1, 0, 2])

    def test_a_set_is_of_its_session_alone(self):
        self.assertEqual(ask(load(NUMBERS), set_own(1, [1, 2, 3, 4]), changed(0), changed(1))[-2:],
                         [[0, 0], [0, 1, 0, 0, 2]])
        self.assertEqual(ask(load(NUMBERS), set_own(0, [1, 2, 3, 4]), changed(0), changed(1))[-2:],
                         [[0, 1, 0, 0, 2], [0, 0]])

    def test_a_set_does_not_change_the_store(self):
        begin = (load(NUMBERS), fill([1, 1, 1, 1]), set_own(0, [1, 1, 2, 2]), set_own(1, [1, 1, 3, 3]))
        for mode in (0, 1):
            self.assertEqual(ask(*begin, clashes(0, mode), clashes(1, mode))[-2:], [[0, 0], [0, 0]])

    def test_behind_a_refusal_all_is_as_it_was(self):
        begin = (load(NUMBERS), fill([1, 1, 1, 1]), set_own(0, [1, 1, 2, 2]), set_own(1, [0]))
        for wrong in (fill([1, 2, 10, 0]), fill([9]), set_own(0, [1, 2, 10, 0]), set_own(1, [9]), set_own(2, [0])):
            self.assertEqual(ask(*begin, wrong, changed(0), changed(1))[-2:], [[0, 1, 1, 0, 1], [0, 1, 2, 0, 1]])


if __name__ == "__main__":
    unittest.main()
