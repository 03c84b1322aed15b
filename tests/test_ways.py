"""Promise 2: cq_ways."""

import random
import unittest

from askedtables.questions import cq_ways
from tests.asking import question, slow_ways, some_case, told_rows, wrong_questions, wrong_rows


def ways(heads, parts, rows, behind=0):
    return cq_ways(len(rows), question(heads, parts, behind), told_rows(rows, behind))


class OrdinaryInputs(unittest.TestCase):
    def test_tables_of_one_two_and_three_places(self):
        rows = [(0, 1), (0, 2), (1, 1), (3, 1, 2), (3, 2, 1), (3, 1, 1), (5, 1, 1)]
        rows += [(6, 1, 2, 3), (7, 1, 2, 3), (7, 1, 2, 4)]
        for parts, count in (
            ([(0, 0)], 2), ([(1, 0)], 1), ([(2, 0)], 0), ([(3, 0, 1)], 3), ([(4, 0, 1)], 0),
            ([(5, 0, 1)], 1), ([(6, 0, 1, 2)], 1), ([(7, 0, 1, 2)], 2),
        ):
            self.assertEqual(ways([], parts, rows), [0, count])

    def test_parts_that_share_names(self):
        rows = [(3, 1, 2), (3, 1, 3), (3, 2, 3), (3, 3, 3), (0, 3)]
        self.assertEqual(ways([0], [(3, 0, 1), (3, 1, 2)], rows), [0, 4])
        self.assertEqual(ways([0], [(3, 0, 1), (3, 0, 2)], rows), [0, 6])
        self.assertEqual(ways([0], [(3, 0, 1), (0, 0)], rows), [0, 1])

    def test_parts_that_share_no_name(self):
        rows = [(0, 1), (0, 2), (0, 3), (1, 1), (1, 2)]
        self.assertEqual(ways([], [(0, 0), (1, 1)], rows), [0, 6])

    def test_a_name_twice_in_a_part(self):
        rows = [(3, 1, 1), (3, 1, 2), (3, 2, 2), (6, 1, 1, 2), (6, 1, 2, 1), (6, 2, 1, 1), (6, 3, 3, 3)]
        self.assertEqual(ways([], [(3, 4, 4)], rows), [0, 2])
        self.assertEqual(ways([], [(6, 0, 0, 1)], rows), [0, 2])
        self.assertEqual(ways([], [(6, 0, 1, 0)], rows), [0, 2])
        self.assertEqual(ways([], [(6, 1, 0, 0)], rows), [0, 2])
        self.assertEqual(ways([], [(6, 0, 0, 0)], rows), [0, 1])

    def test_one_part_told_twice(self):
        self.assertEqual(ways([], [(3, 0, 1), (3, 0, 1)], [(3, 1, 2), (3, 2, 1)]), [0, 2])

    def test_ways_are_counted_not_answers(self):
        rows = [(3, 1, 2), (3, 1, 3), (3, 1, 4)]
        for heads in ([], [0], [1], [0, 1], [0, 0, 0, 0]):
            self.assertEqual(ways(heads, [(3, 0, 1)], rows), [0, 3])

    def test_what_is_given_back_is_a_list_of_whole_numbers(self):
        for rows in ([], [(0, 1)]):
            given = ways([0], [(0, 0)], rows)
            self.assertIs(type(given), list)
            self.assertEqual([type(number) for number in given], [int] * 2)

    def test_as_the_slow_answer(self):
        source = random.Random(2)
        for count in range(600):
            heads, parts, rows = some_case(source)
            behind = source.choice((0, 7, 16, 255))
            with self.subTest(heads=heads, parts=parts, rows=rows):
                self.assertEqual(ways(heads, parts, rows, behind), [0, len(slow_ways(parts, rows))])


class Edges(unittest.TestCase):
    def test_no_rows(self):
        self.assertEqual(ways([0], [(0, 0)], []), [0, 0])
        self.assertEqual(ways([], [(6, 0, 0, 0)] * 10, []), [0, 0])

    def test_128_rows(self):
        rows = [(3, first, second) for first in range(16) for second in range(8)]
        self.assertEqual(ways([], [(3, 0, 1)], rows), [0, 128])
        self.assertEqual(ways([], [(3, 0, 1), (3, 2, 3), (3, 4, 5), (3, 6, 7)], rows), [0, 128 ** 4])

    def test_the_last_of_128_rows_counts(self):
        self.assertEqual(ways([], [(0, 0)], [(1, 3)] * 127 + [(0, 5)]), [0, 1])

    def test_rows_told_twice_are_there_once(self):
        rows = [(3, 1, 2), (3, 1, 2), (3, 2, 5), (3, 1, 2)]
        self.assertEqual(ways([0], [(3, 0, 1)], rows), [0, 2])
        self.assertEqual(ways([0], [(3, 0, 1), (3, 1, 2)], rows), [0, 1])

    def test_rows_in_any_order(self):
        rows = [(3, 1, 2), (0, 3), (3, 2, 3), (0, 2), (3, 3, 1)]
        for turn in range(len(rows)):
            turned = rows[turn:] + rows[:turn]
            self.assertEqual(ways([], [(3, 0, 1), (0, 1)], turned), [0, 2])
            self.assertEqual(ways([], [(3, 0, 1), (0, 1)], turned[::-1]), [0, 2])

    def test_numbers_behind_are_not_looked_at(self):
        rows = [(0, 4), (3, 4, 5), (3, 4, 6), (0, 5)]
        for behind in (0, 1, 7, 8, 15, 16, 254, 255):
            self.assertEqual(ways([1], [(0, 0), (3, 0, 1)], rows, behind), [0, 2])
            self.assertEqual(ways([], [(0, 0)], rows, behind), [0, 2])

    def test_rows_that_differ_behind_their_places_are_one_row(self):
        rows = [0, 4, 0, 0, 0, 4, 255, 1, 0, 4, 16, 9]
        self.assertEqual(cq_ways(3, question([0], [(0, 0)]), rows), [0, 1])

    def test_names_behind_a_parts_places_do_not_count(self):
        numbers = question([0], [(0, 0, 1, 2), (0, 3, 0, 0)])
        self.assertEqual(cq_ways(2, numbers, told_rows([(0, 4), (0, 5)])), [0, 4])

    def test_four_heads(self):
        self.assertEqual(ways([0, 1, 2, 0], [(6, 0, 1, 2)], [(6, 1, 2, 3), (6, 3, 2, 1)]), [0, 2])

    def test_ten_parts(self):
        pairs = [(3, first, second) for first in range(5) for second in range(first)]
        rows = [(3, first, second) for first in range(6) for second in range(6) if first != second]
        self.assertEqual(ways([], pairs, rows), [0, 6 * 5 * 4 * 3 * 2])

    def test_the_tenth_part_counts(self):
        rows = [(0, 1), (0, 2), (1, 2)]
        self.assertEqual(ways([], [(0, 0)] * 9 + [(1, 0)], rows), [0, 1])
        self.assertEqual(ways([], [(0, 0)] * 9 + [(0, 1)], rows), [0, 4])

    def test_highest_names_and_values(self):
        self.assertEqual(ways([], [(7, 5, 6, 7)], [(7, 15, 0, 15), (7, 15, 15, 15)]), [0, 2])

    def test_as_many_ways_as_can_be(self):
        rows = [(2, value) for value in range(16)]
        self.assertEqual(ways([], [(2, name) for name in range(8)], rows), [0, 4294967296])

    def test_far_too_many_ways_to_go_through_each(self):
        rows = [(3, first, second) for first in range(8) for second in range(16)]
        self.assertEqual(ways([], [(3, 0, name) for name in range(1, 8)], rows), [0, 8 * 16 ** 7])
        self.assertEqual(ways([], [(3, name, 7) for name in range(7)], rows), [0, 16 * 8 ** 7])
        self.assertEqual(ways([], [(3, name, name + 1) for name in range(7)], rows), [0, 8 ** 7 * 16])


class WrongInputs(unittest.TestCase):
    right = question([0, 1], [(0, 0), (3, 0, 1)])
    rows = told_rows([(0, 4), (3, 4, 5)])

    def test_all_as_told_is_answered(self):
        self.assertEqual(cq_ways(2, self.right, self.rows), [0, 1])

    def test_what_is_no_question(self):
        for why, numbers in wrong_questions():
            with self.subTest(why):
                self.assertEqual(cq_ways(2, numbers, self.rows), [-2])
                self.assertEqual(cq_ways(0, numbers, []), [-2])

    def test_what_are_no_rows(self):
        for why, n, rows in wrong_rows():
            with self.subTest(why):
                self.assertEqual(cq_ways(n, self.right, rows), [-2])

    def test_two_at_once(self):
        for why, numbers in wrong_questions():
            for also, n, rows in wrong_rows()[:6]:
                with self.subTest(why, also=also):
                    self.assertEqual(cq_ways(n, numbers, rows), [-2])


class HandedIn(unittest.TestCase):
    def test_what_is_handed_in_stays_as_it_was(self):
        numbers = question([1, 0], [(3, 0, 1), (0, 1)], behind=9)
        rows = told_rows([(3, 5, 4), (3, 1, 4), (0, 4), (0, 4)], behind=9)
        before = (list(numbers), list(rows))
        self.assertEqual(cq_ways(4, numbers, rows), [0, 2])
        self.assertEqual(cq_ways(-1, numbers, rows), [-2])
        self.assertEqual((list(numbers), list(rows)), before)

    def test_a_second_call_answers_as_the_first(self):
        first = ways([0], [(0, 0)], [(0, 1), (0, 2)])
        first.append(77)
        self.assertEqual(ways([1], [(3, 0, 1)], [(3, 8, 9)]), [0, 1])
        self.assertEqual(ways([0], [(8, 0)], []), [-2])
        self.assertEqual(ways([0], [(0, 0)], [(0, 1), (0, 2)]), [0, 2])


if __name__ == "__main__":
    unittest.main()
