import unittest

from tests.helpers import (ALL_HELD, as_bytes, ask, changed, clashes, commit, fill, load, merged, orders, refresh,
                           set_own, size, tables, written)
from twosessions.calls import read_calls
from twosessions.store import answers

P = "table p { a: number from 0 to 9; b: number from 0 to 9; }"
BIG = 10 ** 18


def all_calls():
    """Each of the twelve calls, and some that are refused."""
    begin = load(P) + fill([2, 1, 5, 5, 2, 6, 6]) + set_own(0, [1, 1, 7, 5]) + set_own(1, [2, 1, 8, 4, 2, 6, 6])
    work = orders(0) + orders(1) + commit(0, 1) + clashes(1, 1) + merged(1, 1, [0]) + merged(1, 0) + refresh(1, 1, [1])
    wrong = fill([9]) + set_own(0, [1, 1, 10, 0]) + load("table") + commit(1, 1, [2]) + tables(3) + orders(2)
    asked = [number for call in ALL_HELD for number in call]
    return begin + changed(1) + work + wrong + asked + load("") + asked


class Answers(unittest.TestCase):
    def test_the_example(self):
        self.assertEqual(ask(load(P), fill([2, 1, 5, 5, 2, 6, 6]), set_own(0, [2, 1, 7, 5, 2, 6, 6]),
                             set_own(1, [1, 1, 8, 4]), changed(1), commit(0, 1), clashes(1, 1), clashes(1, 0),
                             merged(1, 1, [0]), merged(1, 1), commit(1, 1, [1]), tables(2), refresh(0, 1),
                             size(), orders(1)),
                         [[0, 1, 2], [0], [0], [0], [0, 2, 1, 0, 1, 2, 0, 2], [0, 1],
                          [0, 1, 0, 0, 1, 0, 5, 7, 8], [0, 1, 4, 0, 1, 0, 0, 0, 0],
                          [0, 1, 1, 7, 4], [1, 1], [0, 2], [0, 1, 1, 8, 4], [0, 2], [0, 2, 0, 0], [1]])

    def test_one_list_with_a_count_ahead_of_each_answer(self):
        calls = load(P) + changed(0) + changed(2) + clashes(0, 0) + written()
        form = "table p {\n  a: number from 0 to 9;\n  b: number from 0 to 9;\n}\n"
        self.assertEqual(answers(calls), [3, 0, 1, 2, 2, 0, 0, 1, -3, 2, 0, 0, 1 + len(form), 0] + as_bytes(form))

    def test_what_is_handed_in_is_as_it_was(self):
        calls = all_calls()
        before = list(calls)
        answers(calls)
        self.assertEqual(calls, before)

    def test_a_second_time_answers_like_the_first(self):
        calls = written() + size() + all_calls()
        first = answers(calls)
        answers(load("table q{}") + fill([1, 1]) + set_own(0, [0]) + commit(0, 0))
        self.assertEqual(answers(calls), first)

    def test_it_gives_back_a_list_of_whole_numbers(self):
        told = answers(all_calls())
        self.assertIs(list, type(told))
        self.assertEqual({int}, {type(number) for number in told})

    def test_ahead_of_any_load_there_are_no_tables(self):
        self.assertEqual(ask(written(), fill([]), set_own(0, []), changed(0), clashes(0, 0), merged(0, 0), orders(1),
                             tables(0), tables(2), commit(1, 1), refresh(0, 0), size()),
                         [[0], [0], [0], [0, 0], [0, 0], [0], [1], [0], [0], [0, 0], [0, 0], [0, 1, 0, 0]])

    def test_numbers_come_up_to_10_to_the_18_either_way(self):
        for number in (BIG, -BIG):
            self.assertEqual(ask(load(P), set_own(number, [number]), changed(number), clashes(number, number),
                                 clashes(0, number), fill([number] * 5000), [0, 1, number],
                                 merged(0, 0, [number] * 5000), commit(0, number, [number]),
                                 refresh(number, number, [number]), tables(number), orders(number)),
                             [[0, 1, 2], [-3], [-3], [-3], [-8], [-4], [-1], [-12], [-8], [-3], [-3], [-8]])

    def test_a_hundred_calls(self):
        self.assertEqual(ask(*[load(P)] * 100), [[0, 1, 2]] * 100)


class ReadCalls(unittest.TestCase):
    def test_all_twelve(self):
        calls = [0, 2, 65, 66, 1, 2, 0, 3, 7, 1, 5, 4, -1, 5, 2, 3, 6, 0, 1, 2, 8, 9, 7, 1, 0, 0,
                 8, BIG, -BIG, 1, BIG, 9, 2, 10, 1, 11]
        self.assertEqual(read_calls(calls),
                         [(0, [], [65, 66]), (1, [], []), (2, [], []), (3, [7], [5]), (4, [-1], []),
                          (5, [2, 3], []), (6, [0, 1], [8, 9]), (7, [1, 0], []), (8, [BIG, -BIG], [BIG]),
                          (9, [2], []), (10, [1], []), (11, [], [])])

    def test_the_longest_lists(self):
        self.assertEqual(read_calls([3, 1, 5000] + [7] * 5000 + [11]), [(3, [1], [7] * 5000), (11, [], [])])


if __name__ == "__main__":
    unittest.main()
