"""Promise 6: cq_fewest."""

import random
import unittest

from askedtables.questions import cq_fewest, cq_within
from tests.asking import question, slow_answers, slow_maps, some_question, some_row, with_number, wrong_questions


def fewest(heads, parts, behind=0):
    return cq_fewest(question(heads, parts, behind))


def mask(*places):
    return [sum(2 ** place for place in places)]


def slow_fewest(heads, parts):
    """The mask, by trying every one."""
    found = []
    for number in range(1, 2 ** len(parts)):
        kept = [part for place, part in enumerate(parts) if number >> place & 1]
        if slow_maps(heads, parts, heads, kept):
            found.append((len(kept), number))
    return [min(found)[1]]


class OrdinaryInputs(unittest.TestCase):
    def test_no_part_can_be_left_out(self):
        self.assertEqual(fewest([0], [(0, 0), (1, 0), (2, 0)]), mask(0, 1, 2))
        self.assertEqual(fewest([0, 2], [(3, 0, 1), (3, 1, 2)]), mask(0, 1))
        self.assertEqual(fewest([], [(3, 0, 1), (3, 1, 2)]), mask(0, 1))
        self.assertEqual(fewest([], [(3, 0, 1), (3, 1, 2), (3, 2, 0)]), mask(0, 1, 2))

    def test_some_parts_can_be_left_out(self):
        self.assertEqual(fewest([0], [(3, 0, 1), (3, 0, 2), (0, 2)]), mask(1, 2))
        self.assertEqual(fewest([0], [(0, 1), (0, 0), (0, 2)]), mask(1))
        self.assertEqual(fewest([], [(3, 0, 1), (3, 1, 2), (3, 2, 2)]), mask(2))

    def test_two_parts_alike(self):
        self.assertEqual(fewest([0], [(0, 0), (0, 0)]), mask(0))
        self.assertEqual(fewest([0, 1], [(3, 0, 1), (1, 0), (3, 0, 1), (1, 0)]), mask(0, 1))
        self.assertEqual(fewest([0, 1], [(1, 0), (3, 0, 1), (3, 0, 1), (1, 0)]), mask(0, 1))
        self.assertEqual(fewest([0, 1], [(3, 0, 1), (3, 0, 1), (1, 0)]), mask(0, 2))

    def test_tables_of_one_two_and_three_places(self):
        for table in range(3):
            self.assertEqual(fewest([1], [(table, 0), (table, 1)]), mask(1))
        for table in range(3, 6):
            self.assertEqual(fewest([1], [(table, 0, 2), (table, 1, 3)]), mask(1))
        for table in range(6, 8):
            self.assertEqual(fewest([1], [(table, 0, 2, 4), (table, 1, 3, 5)]), mask(1))

    def test_tables_are_told_apart(self):
        self.assertEqual(fewest([], [(0, 0), (1, 0), (2, 0)]), mask(0, 1, 2))
        self.assertEqual(fewest([], [(3, 0, 1), (4, 0, 1), (5, 0, 1)]), mask(0, 1, 2))
        self.assertEqual(fewest([], [(6, 0, 1, 2), (7, 0, 1, 2)]), mask(0, 1))

    def test_a_name_twice_in_a_part(self):
        self.assertEqual(fewest([], [(3, 0, 1), (3, 2, 2)]), mask(1))
        self.assertEqual(fewest([], [(6, 0, 0, 1), (6, 0, 1, 0), (6, 2, 3, 4)]), mask(0, 1))
        self.assertEqual(fewest([], [(6, 0, 0, 1), (6, 0, 1, 0), (6, 4, 4, 4)]), mask(2))

    def test_a_map_that_folds_a_path(self):
        self.assertEqual(fewest([0], [(3, 0, 1), (3, 2, 1), (3, 2, 3)]), mask(0))
        self.assertEqual(fewest([0, 3], [(3, 0, 1), (3, 2, 1), (3, 2, 3)]), mask(0, 1, 2))
        self.assertEqual(fewest([], [(3, 0, 1), (3, 1, 0), (3, 1, 2), (3, 2, 1)]), mask(0, 1))

    def test_a_map_that_folds_a_ring(self):
        six_ring = [(3, name, (name + 1) % 6) for name in range(6)]
        self.assertEqual(fewest([], six_ring), mask(0, 1, 2, 3, 4, 5))
        self.assertEqual(fewest([], six_ring + [(3, 6, 7), (3, 7, 6)]), mask(6, 7))
        self.assertEqual(fewest([0], six_ring + [(3, 6, 7), (3, 7, 6)]), mask(*range(8)))
        both_ways = [(3, 0, 1), (3, 1, 0), (3, 1, 2), (3, 2, 1), (3, 2, 3), (3, 3, 2), (3, 3, 0), (3, 0, 3)]
        self.assertEqual(fewest([], both_ways), mask(0, 1))
        self.assertEqual(fewest([1, 2], both_ways), mask(2, 3))

    def test_a_part_that_only_several_steps_together_free(self):
        parts = [(3, 0, 1), (4, 1, 2), (5, 2, 3), (3, 0, 4), (4, 4, 5), (5, 5, 6)]
        self.assertEqual(fewest([0], parts), mask(0, 1, 2))
        self.assertEqual(fewest([0, 6], parts), mask(3, 4, 5))
        self.assertEqual(fewest([3, 6], parts), mask(0, 1, 2, 3, 4, 5))

    def test_a_head_must_go_on_standing_in_some_part(self):
        self.assertEqual(fewest([0, 1], [(0, 0), (0, 1)]), mask(0, 1))
        self.assertEqual(fewest([1], [(0, 0), (0, 1)]), mask(1))
        self.assertEqual(fewest([0], [(0, 0), (0, 1)]), mask(0))
        parts = [(3, 0, 4), (3, 1, 4), (3, 2, 5), (3, 3, 5), (3, 6, 7)]
        self.assertEqual(fewest([0, 1, 2, 3], parts), mask(0, 1, 2, 3))

    def test_heads_named_twice(self):
        self.assertEqual(fewest([1, 1], [(0, 0), (0, 1), (0, 2)]), mask(1))
        self.assertEqual(fewest([1, 2, 1], [(0, 0), (0, 1), (0, 2)]), mask(1, 2))

    def test_the_least_of_several_masks(self):
        for count in range(1, 9):
            self.assertEqual(fewest([], [(0, name) for name in range(count)]), mask(0))
        self.assertEqual(fewest([], [(0, 0), (1, 1), (0, 2), (1, 3)]), mask(0, 1))
        self.assertEqual(fewest([], [(3, 2, 3), (3, 4, 5), (0, 3), (0, 5)]), mask(0, 2))
        self.assertEqual(fewest([], [(3, 2, 3), (3, 4, 5), (0, 5), (0, 3)]), mask(1, 2))
        self.assertEqual(fewest([], [(0, 5), (3, 4, 5), (3, 2, 3), (0, 3)]), mask(0, 1))

    def test_no_heads(self):
        self.assertEqual(fewest([], [(3, 0, 1), (3, 0, 2), (3, 3, 2), (3, 3, 4)]), mask(0))
        self.assertEqual(fewest([], [(6, 0, 1, 2), (6, 0, 1, 3), (6, 4, 1, 2)]), mask(0))

    def test_what_is_given_back_is_a_list_of_one_whole_number(self):
        given = fewest([], [(0, 0), (0, 1)])
        self.assertIs(type(given), list)
        self.assertEqual([type(number) for number in given], [int])

    def test_as_the_slow_answer(self):
        source = random.Random(8)
        seen = []
        for count in range(400):
            tables = source.choice(((3,), (3,), (0, 3), (0, 3, 6), (5, 7), (1, 2, 4)))
            heads, parts = some_question(source, tables, source.randint(1, 8), 7, source.choice((0, 0, 1, 2, 4)))
            expected = slow_fewest(heads, parts)
            seen.append(len(parts) - bin(expected[0]).count("1"))
            with self.subTest(heads=heads, parts=parts):
                self.assertEqual(fewest(heads, parts, source.choice((0, 7, 8, 255))), expected)
        self.assertGreater(len([gone for gone in seen if gone > 0]), 100)
        self.assertGreater(len([gone for gone in seen if gone == 0]), 50)

    def test_the_fewest_have_the_same_answers(self):
        source = random.Random(9)
        for count in range(100):
            heads, parts = some_question(source, (0, 3, 6), 6, 6, source.choice((0, 1, 2)))
            kept = fewest(heads, parts)[0]
            fewer = [part for place, part in enumerate(parts) if kept >> place & 1]
            rows = [some_row(source, (0, 3, 6), 4) for row in range(40)]
            self.assertEqual(slow_answers(heads, parts, rows), slow_answers(heads, fewer, rows))
            self.assertEqual(cq_within(question(heads, fewer), question(heads, parts))[0], 1)
            self.assertEqual(fewest(heads, fewer), [2 ** len(fewer) - 1])


class Edges(unittest.TestCase):
    def test_one_part(self):
        for heads in ([], [0], [0, 0, 0, 0]):
            for part in ((0, 0), (3, 0, 0), (4, 0, 1), (7, 0, 1, 2)):
                self.assertEqual(fewest(heads, [part]), mask(0))

    def test_ten_parts(self):
        self.assertEqual(fewest([0], [(0, 0)] * 10), mask(0))
        self.assertEqual(fewest([7], [(0, 0)] * 9 + [(0, 7)]), mask(9))
        self.assertEqual(fewest([0], [(0, 0)] * 9 + [(1, 0)]), mask(0, 9))
        clique = [(3, low, high) for high in range(5) for low in range(high)]
        self.assertEqual(fewest([], clique), [1023])

    def test_as_many_parts_and_names_as_there_may_be(self):
        ring = [(3, name, (name + 1) % 8) for name in range(8)]
        self.assertEqual(fewest([], ring + [(3, 0, 3), (3, 3, 0)]), mask(8, 9))
        self.assertEqual(fewest([3, 0], ring + [(3, 0, 3), (3, 3, 0)]), mask(8, 9))
        self.assertEqual(fewest([6], ring + [(3, 0, 3), (3, 3, 0)]), mask(3, 4, 5, 6, 7, 8, 9))
        self.assertEqual(fewest([], ring + [(3, 0, 4), (3, 4, 0)]), [1023])
        self.assertEqual(fewest([], ring + [(4, 0, 3), (4, 3, 0)]), [1023])
        loose = [(0, name) for name in range(8)]
        self.assertEqual(fewest([], loose + [(1, 3), (2, 3)]), mask(3, 8, 9))
        self.assertEqual(fewest([5, 6, 7, 4], loose + [(1, 3), (2, 3)]), mask(3, 4, 5, 6, 7, 8, 9))

    def test_far_too_many_maps_to_go_through_each(self):
        star = [(3, 0, name) for name in range(1, 8)] + [(3, 0, 1)] * 3
        self.assertEqual(fewest([0], star), mask(0))
        self.assertEqual(fewest([3, 5], star), mask(2, 4))

    def test_numbers_behind_are_not_looked_at(self):
        for behind in (0, 1, 2, 7, 8, 254, 255):
            self.assertEqual(fewest([0], [(3, 0, 1), (3, 0, 2), (0, 2), (0, 3)], behind), mask(1, 2))
            self.assertEqual(fewest([], [(0, 0), (0, 1)], behind), mask(0))

    def test_parts_that_differ_behind_their_places_are_alike(self):
        self.assertEqual(fewest([0], [(0, 0, 1, 2), (0, 0, 5, 6), (3, 0, 0, 1), (3, 0, 0, 2)]), mask(0, 2))

    def test_parts_behind_the_last_and_names_behind_the_heads_do_not_count(self):
        numbers = with_number(question([], [(3, 0, 1), (3, 2, 3), (3, 0, 0)]), 1, 2)
        self.assertEqual(cq_fewest(numbers), mask(0))
        numbers = with_number(question([0], [(0, 0), (0, 1)]), 3, 1)
        self.assertEqual(cq_fewest(numbers), mask(0))


class WrongInputs(unittest.TestCase):
    def test_what_is_no_question(self):
        for why, numbers in wrong_questions():
            with self.subTest(why):
                self.assertEqual(cq_fewest(numbers), [-2])


class HandedIn(unittest.TestCase):
    def test_what_is_handed_in_stays_as_it_was(self):
        numbers = question([1, 0], [(3, 0, 2), (3, 0, 1), (0, 1)], behind=9)
        before = list(numbers)
        self.assertEqual(cq_fewest(numbers), mask(1, 2))
        self.assertEqual(list(numbers), before)

    def test_a_second_call_answers_as_the_first(self):
        first = fewest([0], [(0, 1), (0, 0)])
        first.append(77)
        self.assertEqual(fewest([], [(0, 1), (0, 0)]), mask(0))
        self.assertEqual(fewest([0], [(8, 0)]), [-2])
        self.assertEqual(fewest([0], [(0, 1), (0, 0)]), mask(1))


if __name__ == "__main__":
    unittest.main()
