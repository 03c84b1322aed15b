"""Promise 1: cq_answers."""

import random
import unittest

from askedtables.questions import cq_answers
from tests.asking import question, slow_answers, some_case, told_rows, with_number, wrong_questions, wrong_rows


def answers(heads, parts, rows, most=65536, behind=0):
    return cq_answers(len(rows), most, question(heads, parts, behind), told_rows(rows, behind))


class OrdinaryInputs(unittest.TestCase):
    def test_a_table_of_one_place(self):
        for table in (0, 1, 2):
            rows = [(table, 9), (table, 4), ((table + 1) % 3, 5)]
            self.assertEqual(answers([6], [(table, 6)], rows), [2, 4, 9])

    def test_a_table_of_two_places(self):
        for table in (3, 4, 5):
            rows = [(table, 7, 1), (table, 2, 15), (3 + (table + 1) % 3, 0, 0)]
            self.assertEqual(answers([0, 1], [(table, 0, 1)], rows), [2, 2, 15, 7, 1])

    def test_a_table_of_three_places(self):
        for table in (6, 7):
            rows = [(table, 3, 2, 1), (table, 3, 1, 2), (13 - table, 0, 0, 0)]
            self.assertEqual(answers([0, 1, 2], [(table, 0, 1, 2)], rows), [2, 3, 1, 2, 3, 2, 1])

    def test_parts_that_share_names(self):
        rows = [(3, 1, 2), (3, 2, 3), (3, 3, 4), (0, 4)]
        self.assertEqual(answers([0, 2], [(3, 0, 1), (3, 1, 2)], rows), [2, 1, 3, 2, 4])
        self.assertEqual(answers([0, 2], [(3, 0, 1), (3, 1, 2), (0, 2)], rows), [1, 2, 4])

    def test_parts_that_share_names_in_a_ring(self):
        ring = [(3, 0, 1), (3, 1, 2), (3, 2, 0)]
        self.assertEqual(answers([0], ring, [(3, 1, 2), (3, 2, 3), (3, 3, 4)]), [0])
        self.assertEqual(answers([0], ring, [(3, 1, 2), (3, 2, 3), (3, 3, 1)]), [3, 1, 2, 3])

    def test_parts_that_share_no_name(self):
        rows = [(0, 1), (0, 2), (1, 8), (1, 9)]
        self.assertEqual(answers([5, 4], [(0, 4), (1, 5)], rows), [4, 8, 1, 8, 2, 9, 1, 9, 2])

    def test_a_name_twice_in_a_part(self):
        self.assertEqual(answers([1], [(3, 1, 1)], [(3, 5, 5), (3, 5, 6), (3, 0, 0)]), [2, 0, 5])
        self.assertEqual(answers([1, 2], [(6, 1, 2, 1)], [(6, 5, 6, 5), (6, 5, 5, 6), (6, 6, 5, 5)]), [1, 5, 6])
        self.assertEqual(answers([0], [(7, 0, 0, 0)], [(7, 3, 3, 3), (7, 3, 3, 4), (7, 4, 3, 3)]), [1, 3])

    def test_one_part_told_twice(self):
        self.assertEqual(answers([0], [(0, 0), (0, 0)], [(0, 3), (0, 1)]), [2, 1, 3])

    def test_a_head_named_twice(self):
        self.assertEqual(answers([2, 2], [(0, 2)], [(0, 7), (0, 6)]), [2, 6, 6, 7, 7])
        self.assertEqual(answers([1, 0, 1], [(3, 0, 1)], [(3, 4, 5), (3, 5, 4)]), [2, 4, 5, 4, 5, 4, 5])

    def test_heads_stand_in_their_own_order(self):
        rows = [(3, 1, 9), (3, 2, 8), (3, 3, 7)]
        self.assertEqual(answers([1, 0], [(3, 0, 1)], rows), [3, 7, 3, 8, 2, 9, 1])

    def test_order_is_by_number_and_by_the_first_that_differs(self):
        rows = [(3, 10, 0), (3, 2, 15), (3, 2, 3), (3, 0, 15), (3, 10, 10), (3, 9, 1)]
        expected = [6, 0, 15, 2, 3, 2, 15, 9, 1, 10, 0, 10, 10]
        self.assertEqual(answers([0, 1], [(3, 0, 1)], rows), expected)

    def test_each_answer_once(self):
        rows = [(3, 1, 2), (3, 1, 3), (3, 1, 4), (3, 0, 2)]
        self.assertEqual(answers([0], [(3, 0, 1)], rows), [2, 0, 1])

    def test_what_is_given_back_is_a_list_of_whole_numbers(self):
        given = answers([0], [(0, 0)], [(0, 0), (0, 1)])
        self.assertIs(type(given), list)
        self.assertEqual([type(number) for number in given], [int] * 3)

    def test_as_the_slow_answer(self):
        source = random.Random(1)
        for count in range(600):
            heads, parts, rows = some_case(source)
            found = slow_answers(heads, parts, rows)
            expected = [len(found)] + [value for answer in found for value in answer]
            behind = source.choice((0, 7, 16, 255))
            with self.subTest(heads=heads, parts=parts, rows=rows):
                self.assertEqual(answers(heads, parts, rows, len(found), behind), expected)


class Edges(unittest.TestCase):
    def test_no_rows(self):
        self.assertEqual(answers([0], [(0, 0)], []), [0])
        self.assertEqual(answers([], [(6, 0, 1, 2)], [], most=0), [0])

    def test_128_rows(self):
        rows = [(3, first, second) for first in range(8) for second in range(16)]
        found = answers([0, 1], [(3, 0, 1)], rows)
        self.assertEqual(found, [128] + [value for row in rows for value in row[1:]])

    def test_the_last_of_128_rows_counts(self):
        self.assertEqual(answers([0], [(0, 0)], [(1, 3)] * 127 + [(0, 5)]), [1, 5])

    def test_rows_told_twice_are_there_once(self):
        rows = [(3, 1, 2), (3, 1, 2), (3, 4, 5), (3, 1, 2)]
        self.assertEqual(answers([0, 1], [(3, 0, 1)], rows, most=2), [2, 1, 2, 4, 5])

    def test_rows_in_any_order(self):
        rows = [(3, 1, 2), (0, 3), (3, 2, 3), (0, 2), (3, 3, 1)]
        parts = [(3, 0, 1), (0, 1)]
        for turn in range(len(rows)):
            turned = rows[turn:] + rows[:turn]
            self.assertEqual(answers([0, 1], parts, turned), [2, 1, 2, 2, 3])
            self.assertEqual(answers([0, 1], parts, turned[::-1]), [2, 1, 2, 2, 3])

    def test_numbers_behind_are_not_looked_at(self):
        rows = [(0, 4), (3, 4, 5), (0, 5)]
        for behind in (0, 1, 7, 8, 15, 16, 254, 255):
            self.assertEqual(answers([1], [(0, 0), (3, 0, 1)], rows, behind=behind), [1, 5])
            self.assertEqual(answers([], [(0, 0)], rows, behind=behind), [1])

    def test_rows_that_differ_behind_their_places_are_one_row(self):
        rows = [0, 4, 0, 0, 0, 4, 255, 1, 0, 4, 16, 9]
        self.assertEqual(cq_answers(3, 1, question([0], [(0, 0)]), rows), [1, 4])

    def test_names_behind_a_parts_places_do_not_bind(self):
        numbers = question([0], [(0, 0, 1, 1), (3, 1, 2, 0)])
        rows = told_rows([(0, 4), (3, 5, 6)])
        self.assertEqual(cq_answers(2, 9, numbers, rows), [1, 4])

    def test_no_heads(self):
        self.assertEqual(answers([], [(0, 0)], [(0, 1), (0, 2)], most=1), [1])
        self.assertEqual(answers([], [(0, 0), (1, 0)], [(0, 1), (1, 2)], most=1), [0])

    def test_four_heads(self):
        rows = [(6, 1, 2, 3), (6, 1, 2, 4), (0, 0), (0, 9)]
        expected = [4, 0, 3, 2, 1, 0, 4, 2, 1, 9, 3, 2, 1, 9, 4, 2, 1]
        self.assertEqual(answers([7, 2, 1, 0], [(6, 0, 1, 2), (0, 7)], rows), expected)

    def test_ten_parts(self):
        parts = [(3, name, name + 1) for name in range(7)] + [(0, 0), (1, 7), (4, 7, 1)]
        rows = [(3, 0, 1), (3, 1, 2), (3, 2, 3), (3, 3, 0), (3, 3, 5), (0, 0), (0, 1), (0, 2), (1, 0), (1, 3), (1, 5),
                (4, 3, 1), (4, 5, 2)]
        self.assertEqual(answers([0, 7], parts, rows), [2, 0, 3, 1, 5])

    def test_the_tenth_part_counts(self):
        parts = [(0, 0)] * 9 + [(1, 0)]
        self.assertEqual(answers([0], parts, [(0, 1), (0, 2), (1, 2)]), [1, 2])
        self.assertEqual(answers([1], [(0, 0)] * 9 + [(1, 1)], [(0, 1), (1, 5)]), [1, 5])

    def test_no_answers_is_the_number_alone(self):
        self.assertEqual(answers([0, 1], [(3, 0, 1)], [(4, 1, 2), (5, 1, 2)]), [0])
        self.assertEqual(answers([0], [(3, 0, 0)], [(3, 1, 2)]), [0])
        self.assertEqual(answers([0], [(0, 0), (1, 5)], [(0, 1)]), [0])

    def test_as_many_as_most_and_one_more(self):
        rows = [(0, 1), (0, 2), (0, 3)]
        self.assertEqual(answers([0], [(0, 0)], rows, most=4), [3, 1, 2, 3])
        self.assertEqual(answers([0], [(0, 0)], rows, most=3), [3, 1, 2, 3])
        self.assertEqual(answers([0], [(0, 0)], rows, most=2), [-1])
        self.assertEqual(answers([0], [(0, 0)], rows, most=2147483647), [3, 1, 2, 3])

    def test_most_counts_answers_not_ways_nor_numbers(self):
        rows = [(3, 1, 2), (3, 1, 3), (3, 1, 4)]
        self.assertEqual(answers([0, 0, 0], [(3, 0, 1)], rows, most=1), [1, 1, 1, 1])

    def test_most_0(self):
        self.assertEqual(answers([0], [(0, 0)], [], most=0), [0])
        self.assertEqual(answers([0], [(0, 0)], [(0, 0)], most=0), [-1])
        self.assertEqual(answers([], [(0, 0)], [(0, 0)], most=0), [-1])

    def test_highest_names_and_values(self):
        self.assertEqual(answers([7, 6, 5], [(7, 5, 6, 7)], [(7, 15, 0, 15)]), [1, 15, 0, 15])

    def test_as_many_answers_as_can_be(self):
        rows = [(0, value) for value in range(16)]
        parts = [(0, name) for name in range(8)]
        found = answers([0, 1, 2, 3], parts, rows, most=65536)
        self.assertEqual(len(found), 1 + 4 * 65536)
        self.assertEqual(found[:9], [65536, 0, 0, 0, 0, 0, 0, 0, 1])
        self.assertEqual(found[-8:], [15, 15, 15, 14, 15, 15, 15, 15])
        self.assertEqual(answers([0, 1, 2, 3], parts, rows, most=65535), [-1])


class WrongInputs(unittest.TestCase):
    right = question([0, 1], [(0, 0), (3, 0, 1)])
    rows = told_rows([(0, 4), (3, 4, 5)])

    def test_all_as_told_is_answered(self):
        self.assertEqual(cq_answers(2, 9, self.right, self.rows), [1, 4, 5])

    def test_what_is_no_question(self):
        for why, numbers in wrong_questions():
            with self.subTest(why):
                self.assertEqual(cq_answers(2, 9, numbers, self.rows), [-2])
                self.assertEqual(cq_answers(0, 9, numbers, []), [-2])

    def test_what_are_no_rows(self):
        for why, n, rows in wrong_rows():
            with self.subTest(why):
                self.assertEqual(cq_answers(n, 9, self.right, rows), [-2])

    def test_most_below_0(self):
        for most in (-1, -2, -2147483648):
            self.assertEqual(cq_answers(2, most, self.right, self.rows), [-2])
            self.assertEqual(cq_answers(0, most, self.right, []), [-2])

    def test_two_at_once(self):
        headed = question([0], [(0, 0)])
        self.assertEqual(cq_answers(2, 0, headed, told_rows([(0, 4), (1, 15)])), [-1])
        self.assertEqual(cq_answers(2, 0, headed, told_rows([(0, 4), (1, 16)])), [-2])
        self.assertEqual(cq_answers(2, 0, with_number(headed, 0, 5), self.rows), [-2])
        self.assertEqual(cq_answers(2, -1, headed, self.rows), [-2])
        self.assertEqual(cq_answers(129, 0, headed, []), [-2])
        self.assertEqual(cq_answers(129, -1, with_number(headed, 1, 0), []), [-2])


class HandedIn(unittest.TestCase):
    def test_what_is_handed_in_stays_as_it_was(self):
        numbers = question([1, 0], [(3, 0, 1), (0, 1)], behind=9)
        rows = told_rows([(3, 5, 4), (3, 1, 4), (0, 4), (0, 4)], behind=9)
        before = (list(numbers), list(rows))
        self.assertEqual(cq_answers(4, 2, numbers, rows), [2, 4, 1, 4, 5])
        self.assertEqual(cq_answers(4, 1, numbers, rows), [-1])
        self.assertEqual(cq_answers(4, -1, numbers, rows), [-2])
        self.assertEqual((list(numbers), list(rows)), before)

    def test_a_second_call_answers_as_the_first(self):
        first = answers([0], [(0, 0)], [(0, 1), (0, 2)])
        first.append(77)
        self.assertEqual(answers([1], [(3, 0, 1)], [(3, 8, 9)]), [1, 9])
        self.assertEqual(answers([0], [(8, 0)], []), [-2])
        self.assertEqual(answers([0], [(0, 0)], [(0, 1), (0, 2)]), [2, 1, 2])


if __name__ == "__main__":
    unittest.main()
