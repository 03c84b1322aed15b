"""Promise 8: cq_settled."""

import random
import unittest

from askedtables.questions import cq_settled
from tests.asking import question, slow_settled, some_case, told_rows, with_number, wrong_questions, wrong_rows


def settled(parts, rows, behind=0, heads=()):
    return cq_settled(len(rows), question(heads, parts, behind), told_rows(rows, behind))


PATH = [(3, 0, 1), (4, 1, 2)]


class OrdinaryInputs(unittest.TestCase):
    def test_settled_and_not(self):
        self.assertEqual(settled(PATH, [(3, 1, 2), (4, 2, 3)]), [1])
        self.assertEqual(settled(PATH, [(3, 1, 2), (4, 3, 3)]), [0])
        self.assertEqual(settled(PATH, [(3, 1, 2), (3, 5, 2), (4, 2, 3), (4, 2, 9)]), [1])

    def test_a_row_with_none_beside_it_on_either_side(self):
        self.assertEqual(settled(PATH, [(3, 1, 2), (3, 1, 5), (4, 2, 3)]), [0])
        self.assertEqual(settled(PATH, [(3, 1, 2), (4, 2, 3), (4, 5, 3)]), [0])
        self.assertEqual(settled(PATH[::-1], [(3, 1, 2), (3, 1, 5), (4, 2, 3)]), [0])
        self.assertEqual(settled(PATH[::-1], [(3, 1, 2), (4, 2, 3), (4, 5, 3)]), [0])

    def test_all_shared_names_agree_at_once(self):
        both = [(3, 0, 1), (4, 1, 0)]
        self.assertEqual(settled(both, [(3, 1, 2), (4, 2, 1)]), [1])
        self.assertEqual(settled(both, [(3, 1, 2), (4, 1, 2)]), [0])
        self.assertEqual(settled(both, [(3, 1, 2), (3, 3, 4), (4, 2, 3), (4, 4, 1)]), [0])

    def test_each_place_of_a_table_of_three(self):
        for place in range(3):
            part = (6, 1, 2, 3)
            rows = [(6, 4, 5, 6), (7, 4, 5, 6)]
            self.assertEqual(settled([part, (7, 1, 2, 3)], rows), [1])
            other = list(rows[1])
            other[1 + place] = 9
            self.assertEqual(settled([part, (7, 1, 2, 3)], [rows[0], tuple(other)]), [0])

    def test_one_part_is_always_settled(self):
        for part in ((0, 0), (3, 0, 0), (5, 0, 1), (7, 0, 1, 2)):
            for rows in ([], [(0, 1)], [(3, 1, 2)], [(5, 1, 2), (7, 1, 2, 3)]):
                self.assertEqual(settled([part], rows), [1])

    def test_a_part_with_a_name_twice(self):
        parts = [(3, 0, 0), (0, 0)]
        self.assertEqual(settled(parts, [(3, 1, 1), (0, 1)]), [1])
        self.assertEqual(settled(parts, [(3, 1, 1), (3, 1, 2), (3, 2, 1), (0, 1)]), [1])
        self.assertEqual(settled(parts, [(3, 1, 2), (0, 1)]), [0])
        self.assertEqual(settled(parts, [(3, 1, 1), (3, 1, 2), (0, 1), (0, 2)]), [0])
        self.assertEqual(settled(parts, [(3, 1, 2), (3, 2, 1)]), [1])
        self.assertEqual(settled([(6, 0, 1, 0), (0, 1)], [(6, 4, 5, 4), (6, 4, 6, 5), (0, 5)]), [1])
        self.assertEqual(settled([(6, 0, 1, 0), (0, 1)], [(6, 4, 5, 4), (6, 6, 6, 5), (0, 5), (0, 6)]), [0])

    def test_a_part_that_no_row_fits(self):
        self.assertEqual(settled([(0, 0), (1, 0)], [(0, 1)]), [0])
        self.assertEqual(settled([(0, 0), (1, 0)], [(1, 1)]), [0])
        self.assertEqual(settled([(0, 0), (1, 0)], [(2, 1)]), [1])
        self.assertEqual(settled([(3, 0, 0), (4, 1, 2)], [(3, 1, 2), (4, 1, 2)]), [0])
        self.assertEqual(settled([(3, 0, 0), (4, 1, 1)], [(3, 1, 2), (4, 1, 2)]), [1])

    def test_two_parts_that_share_no_name(self):
        self.assertEqual(settled([(0, 0), (1, 1)], [(0, 4), (0, 5), (1, 6)]), [1])
        self.assertEqual(settled([(0, 0), (1, 1)], [(0, 4), (0, 5)]), [0])
        self.assertEqual(settled([(0, 0), (0, 1)], [(0, 4), (0, 5)]), [1])

    def test_one_part_twice(self):
        self.assertEqual(settled([(3, 0, 1), (3, 0, 1)], [(3, 4, 5), (3, 5, 4)]), [1])
        self.assertEqual(settled([(3, 0, 1), (3, 0, 1)], []), [1])
        self.assertEqual(settled([(3, 0, 1), (3, 1, 0)], [(3, 4, 5), (3, 5, 4)]), [1])
        self.assertEqual(settled([(3, 0, 1), (3, 1, 0)], [(3, 4, 5), (3, 5, 6)]), [0])

    def test_any_two_parts_not_neighbours_alone(self):
        parts = [(0, 0), (1, 1), (3, 0, 2)]
        self.assertEqual(settled(parts, [(0, 4), (1, 5), (3, 4, 6)]), [1])
        self.assertEqual(settled(parts, [(0, 4), (1, 5), (3, 7, 6)]), [0])

    def test_two_by_two_is_enough(self):
        ring = [(3, 0, 1), (3, 1, 2), (3, 2, 0)]
        self.assertEqual(settled(ring, [(3, 4, 5), (3, 5, 4)]), [1])

    def test_heads_do_not_matter(self):
        for heads in ([], [0], [2, 1], [0, 1, 2, 0]):
            self.assertEqual(settled(PATH, [(3, 1, 2), (4, 2, 3)], heads=heads), [1])
            self.assertEqual(settled(PATH, [(3, 1, 2), (4, 3, 3)], heads=heads), [0])

    def test_what_is_given_back_is_a_list_of_one_whole_number(self):
        for rows in ([], [(3, 1, 2)]):
            given = settled(PATH, rows)
            self.assertIs(type(given), list)
            self.assertEqual([type(number) for number in given], [int])

    def test_as_the_slow_answer(self):
        source = random.Random(12)
        seen = [0, 0]
        for count in range(1500):
            heads, parts, rows = some_case(source)
            expected = slow_settled(parts, rows)
            seen[expected] += 1
            behind = source.choice((0, 7, 16, 255))
            with self.subTest(parts=parts, rows=rows):
                self.assertEqual(settled(parts, rows, behind, heads), [expected])
        self.assertGreater(min(seen), 100)

    def test_few_values_as_the_slow_answer(self):
        source = random.Random(13)
        seen = [0, 0]
        for count in range(600):
            parts = [(source.choice((3, 4)), source.randrange(3), source.randrange(3)) for part in range(3)]
            rows = [(source.choice((3, 4)), source.randrange(2), source.randrange(2)) for row in range(8)]
            expected = slow_settled(parts, rows)
            seen[expected] += 1
            with self.subTest(parts=parts, rows=rows):
                self.assertEqual(settled(parts, rows), [expected])
        self.assertGreater(min(seen), 100)


class Edges(unittest.TestCase):
    def test_no_rows(self):
        for parts in ([(0, 0)], PATH, [(0, 0), (1, 1)], [(6, 0, 1, 2)] * 10):
            self.assertEqual(settled(parts, []), [1])

    def test_128_rows(self):
        rows = [(3, first, second) for first in range(8) for second in range(16)]
        self.assertEqual(settled([(3, 0, 1), (3, 0, 2)], rows), [1])
        self.assertEqual(settled([(3, 0, 1), (3, 2, 1)], rows), [1])
        self.assertEqual(settled([(3, 0, 1), (3, 1, 2)], rows), [0])

    def test_the_last_of_128_rows_counts(self):
        rows = [(0, 3)] * 127
        self.assertEqual(settled([(0, 0), (1, 0)], rows + [(1, 3)]), [1])
        self.assertEqual(settled([(0, 0), (1, 0)], rows + [(1, 4)]), [0])
        self.assertEqual(settled([(0, 0), (1, 0)], rows + [(0, 3)]), [0])

    def test_ten_parts(self):
        nine = [(0, 0)] * 9
        self.assertEqual(settled(nine + [(1, 0)], [(0, 4), (1, 4)]), [1])
        self.assertEqual(settled(nine + [(1, 0)], [(0, 4), (1, 5)]), [0])
        chain = [(3, name, name + 1) for name in range(7)] + [(4, 7, 0), (0, 0), (1, 7)]
        rows = [(3, 4, 5), (3, 5, 4), (4, 5, 4), (4, 4, 5), (0, 4), (0, 5), (1, 5), (1, 4)]
        self.assertEqual(settled(chain, rows), [1])
        self.assertEqual(settled(chain, rows[:-1]), [0])

    def test_rows_told_twice_and_in_any_order(self):
        rows = [(3, 1, 2), (4, 2, 3), (3, 1, 2), (4, 2, 4)]
        for turn in range(len(rows)):
            self.assertEqual(settled(PATH, rows[turn:] + rows[:turn]), [1])
            self.assertEqual(settled(PATH, rows[turn:] + rows[:turn] + [(4, 1, 2)]), [0])

    def test_highest_and_least_names_and_values(self):
        self.assertEqual(settled([(7, 5, 6, 7), (0, 7)], [(7, 15, 0, 15), (0, 15)]), [1])
        self.assertEqual(settled([(7, 5, 6, 7), (0, 6)], [(7, 15, 0, 15), (0, 0)]), [1])
        self.assertEqual(settled([(7, 5, 6, 7), (0, 6)], [(7, 15, 0, 15), (0, 15)]), [0])
        self.assertEqual(settled([(0, 0), (1, 0)], [(0, 0)]), [0])

    def test_numbers_behind_are_not_looked_at(self):
        for behind in (0, 1, 2, 7, 8, 15, 16, 254, 255):
            self.assertEqual(settled([(0, 0), (3, 0, 1)], [(0, 4), (3, 4, 5)], behind), [1])
            self.assertEqual(settled([(0, 0), (3, 0, 1)], [(0, 4), (3, 5, 4)], behind), [0])
            self.assertEqual(settled([(0, 0)], [(1, 1)], behind, [0]), [1])

    def test_what_stands_behind_the_places_does_not_bind(self):
        self.assertEqual(settled([(0, 0, 1, 1), (1, 1, 0, 0)], [(0, 4, 9, 9), (1, 5, 8, 8)]), [1])
        self.assertEqual(settled([(0, 0, 0, 0), (1, 0, 0, 0)], [(0, 4, 9, 9), (1, 4, 8, 8)]), [1])

    def test_parts_behind_the_last_do_not_count(self):
        numbers = question([], [(0, 0), (0, 1), (1, 0)])
        rows = told_rows([(0, 4)])
        self.assertEqual(cq_settled(1, numbers, rows), [0])
        self.assertEqual(cq_settled(1, with_number(numbers, 1, 2), rows), [1])


class WrongInputs(unittest.TestCase):
    right = question([0, 1], [(0, 0), (3, 0, 1)])
    rows = told_rows([(0, 4), (3, 4, 5)])

    def test_all_as_told_is_answered(self):
        self.assertEqual(cq_settled(2, self.right, self.rows), [1])

    def test_what_is_no_question(self):
        for why, numbers in wrong_questions():
            with self.subTest(why):
                self.assertEqual(cq_settled(2, numbers, self.rows), [-2])
                self.assertEqual(cq_settled(0, numbers, []), [-2])

    def test_what_are_no_rows(self):
        for why, n, rows in wrong_rows():
            with self.subTest(why):
                self.assertEqual(cq_settled(n, self.right, rows), [-2])

    def test_two_at_once(self):
        for why, numbers in wrong_questions():
            for also, n, rows in wrong_rows()[:6]:
                with self.subTest(why, also=also):
                    self.assertEqual(cq_settled(n, numbers, rows), [-2])


class HandedIn(unittest.TestCase):
    def test_what_is_handed_in_stays_as_it_was(self):
        numbers = question([1, 0], [(3, 0, 1), (0, 1)], behind=9)
        rows = told_rows([(3, 5, 4), (3, 1, 4), (0, 4), (0, 4)], behind=9)
        before = (list(numbers), list(rows))
        self.assertEqual(cq_settled(4, numbers, rows), [1])
        self.assertEqual(cq_settled(-1, numbers, rows), [-2])
        self.assertEqual((list(numbers), list(rows)), before)

    def test_a_second_call_answers_as_the_first(self):
        first = settled(PATH, [(3, 1, 2), (4, 2, 3)])
        first.append(77)
        self.assertEqual(settled(PATH, [(3, 1, 2)]), [0])
        self.assertEqual(settled([(8, 0)], []), [-2])
        self.assertEqual(settled(PATH, [(3, 1, 2), (4, 2, 3)]), [1])


if __name__ == "__main__":
    unittest.main()
