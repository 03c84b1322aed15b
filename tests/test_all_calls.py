"""What holds of all eight calls: nothing handed in is changed, and each call is as if it were the first."""

import itertools
import unittest

from askedtables import questions
from tests.asking import Untouched, question, told_rows, with_number, wrong_questions

PATH = question([0, 2], [(3, 0, 1), (3, 1, 2), (3, 0, 3)], behind=9)
EDGE = question([1, 0], [(3, 1, 0)], behind=9)
BACK = question([4, 5], [(3, 4, 6), (3, 6, 5)], behind=9)
WRONG = with_number(PATH, 6, 8)
ROWS = told_rows([(3, 1, 2), (3, 2, 1), (3, 1, 2), (0, 7)], behind=9)

# Each call with what it is handed, and what it answers.
RIGHT = [
    ("cq_answers", (4, 9, PATH, ROWS), [2, 1, 1, 2, 2]),
    ("cq_ways", (4, PATH, ROWS), [0, 2]),
    ("cq_within", (PATH, BACK), [1, 255, 255, 255, 255, 0, 2, 1, 255]),
    ("cq_among", (2, PATH, Untouched([EDGE, BACK])), [1]),
    ("cq_shows", (EDGE,), [1, 3, 1, 0] + [0] * 37),
    ("cq_fewest", (PATH,), [3]),
    ("cq_tree", (PATH,), [1, 0, 0, 0] + [255] * 7),
    ("cq_settled", (4, PATH, ROWS), [1]),
]
OTHER = [
    ("cq_answers", (4, 1, PATH, ROWS), [-1]),
    ("cq_within", (PATH, EDGE), [0]),
    ("cq_within", (PATH, question([], [(0, 0)])), [-3]),
    ("cq_among", (1, PATH, Untouched([EDGE])), [0]),
    ("cq_among", (2, PATH, Untouched([EDGE, question([], [(0, 0)])])), [-3]),
    ("cq_tree", (question([], [(3, 0, 1), (3, 1, 2), (3, 2, 0)]),), [0]),
    ("cq_settled", (1, question([], [(0, 0), (1, 0)]), told_rows([(0, 0)])), [0]),
]
REFUSED = [
    ("cq_answers", (4, 9, WRONG, ROWS), [-2]),
    ("cq_ways", (4, WRONG, ROWS), [-2]),
    ("cq_within", (PATH, WRONG), [-2]),
    ("cq_among", (2, PATH, Untouched([EDGE, WRONG])), [-2]),
    ("cq_shows", (WRONG,), [-2]),
    ("cq_fewest", (WRONG,), [-2]),
    ("cq_tree", (WRONG,), [-2]),
    ("cq_settled", (4, WRONG, ROWS), [-2]),
]


def call(name, handed):
    return getattr(questions, name)(*handed)


def copied(value):
    return [copied(inner) for inner in value] if isinstance(value, (list, tuple)) else value


class AllCalls(unittest.TestCase):
    def test_all_eight_are_here(self):
        self.assertEqual(len({name for name, handed, expected in RIGHT}), 8)
        self.assertEqual(len({name for name, handed, expected in REFUSED}), 8)

    def test_what_is_handed_in_stays_as_it_was(self):
        for name, handed, expected in RIGHT + OTHER + REFUSED:
            before = copied(handed)
            with self.subTest(name, expected=expected):
                self.assertEqual(call(name, handed), expected)
                self.assertEqual(copied(handed), before)

    def test_what_is_given_back_is_a_list_of_its_own(self):
        for name, handed, expected in RIGHT + OTHER + REFUSED:
            before = copied(handed)
            with self.subTest(name, expected=expected):
                given = call(name, handed)
                self.assertIs(type(given), list)
                self.assertEqual({type(number) for number in given}, {int})
                given[0] = 77
                given.append(78)
                self.assertEqual(call(name, handed), expected)
                self.assertEqual(copied(handed), before)

    def test_each_call_is_as_if_for_the_first_time(self):
        for ahead, behind in itertools.product(RIGHT + OTHER + REFUSED, repeat=2):
            for name, handed, expected in (ahead, behind, ahead):
                with self.subTest(name, expected=expected):
                    self.assertEqual(call(name, handed), expected)

    def test_all_calls_refuse_what_is_no_question(self):
        for why, numbers in wrong_questions():
            for name, handed, expected in RIGHT:
                put = tuple(numbers if value is PATH or value is EDGE else value for value in handed)
                with self.subTest(name, why=why):
                    self.assertEqual(call(name, put), [-2])

    def test_all_calls_that_take_rows_refuse_what_are_none(self):
        for name, handed, expected in RIGHT:
            if ROWS in handed:
                for rows in (with_number(ROWS, 4, 8), with_number(ROWS, 13, 16)):
                    put = tuple(rows if value is ROWS else value for value in handed)
                    self.assertEqual(call(name, put), [-2])
                for n in (-1, 129, -2147483648, 2147483647):
                    put = (n,) + tuple([] if value is ROWS else value for value in handed[1:])
                    self.assertEqual(call(name, put), [-2])


if __name__ == "__main__":
    unittest.main()
