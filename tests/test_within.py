"""Promise 3: cq_within."""

import random
import unittest

from askedtables.questions import cq_within
from tests.asking import (
    Untouched, question, slow_answers, slow_maps, some_pair, some_row, with_number, wrong_questions,
)

RING = [(3, name, (name + 1) % 8) for name in range(8)]


def within(q, p, behind=0):
    """Each question is told by its heads and its parts."""
    return cq_within(question(q[0], q[1], behind), question(p[0], p[1], behind))


def first(*names):
    """What is answered with this map; None for a name that does not stand there."""
    row = [255 if name is None else name for name in names]
    return [1] + row + [255] * (8 - len(row))


class OrdinaryInputs(unittest.TestCase):
    def test_q_within_p_and_not_the_other_way(self):
        narrow = ([0], [(3, 0, 1), (0, 1)])
        wide = ([2], [(3, 2, 5)])
        self.assertEqual(within(narrow, wide), first(None, None, 0, None, None, 1))
        self.assertEqual(within(wide, narrow), [0])

    def test_each_within_the_other(self):
        short = ([0], [(3, 0, 1)])
        long = ([4], [(3, 4, 5), (3, 4, 6)])
        self.assertEqual(within(short, long), first(None, None, None, None, 0, 1, 1))
        self.assertEqual(within(long, short), first(4, 5))

    def test_neither_within_the_other(self):
        self.assertEqual(within(([], [(0, 0)]), ([], [(1, 0)])), [0])
        self.assertEqual(within(([], [(1, 0)]), ([], [(0, 0)])), [0])

    def test_a_question_within_itself(self):
        for table in (0, 1, 2):
            self.assertEqual(within(([3], [(table, 3)]), ([3], [(table, 3)])), first(None, None, None, 3))
        for table in (3, 4, 5):
            self.assertEqual(within(([1], [(table, 1, 0)]), ([1], [(table, 1, 0)])), first(0, 1))
        for table in (6, 7):
            self.assertEqual(within(([2], [(table, 2, 0, 1)]), ([2], [(table, 2, 0, 1)])), first(0, 1, 2))

    def test_tables_are_told_apart(self):
        for table in (0, 1, 2):
            for other in (0, 1, 2):
                expected = first(5) if table == other else [0]
                self.assertEqual(within(([5], [(table, 5)]), ([0], [(other, 0)])), expected)
        self.assertEqual(within(([], [(3, 0, 1)]), ([], [(4, 0, 1)])), [0])
        self.assertEqual(within(([], [(6, 0, 1, 2)]), ([], [(7, 0, 1, 2)])), [0])

    def test_parts_of_three_places(self):
        q = ([4], [(6, 4, 5, 6), (6, 6, 5, 4)])
        self.assertEqual(within(q, ([0], [(6, 0, 1, 2)])), first(4, 5, 6))
        self.assertEqual(within(q, ([2], [(6, 0, 1, 2)])), first(6, 5, 4))
        self.assertEqual(within(q, ([1], [(6, 0, 1, 2)])), [0])
        self.assertEqual(within(q, ([0], [(6, 0, 1, 0)])), [0])

    def test_a_name_twice_in_a_part(self):
        loop = ([], [(3, 2, 2)])
        edge = ([], [(3, 0, 1)])
        self.assertEqual(within(loop, edge), first(2, 2))
        self.assertEqual(within(edge, loop), [0])
        self.assertEqual(within(([], [(6, 1, 3, 1)]), ([], [(6, 0, 1, 0)])), first(1, 3))
        self.assertEqual(within(([], [(6, 1, 1, 3)]), ([], [(6, 0, 1, 0)])), [0])
        self.assertEqual(within(([], [(7, 4, 4, 4)]), ([], [(7, 2, 1, 2)])), first(None, 4, 4))

    def test_places_are_not_swapped(self):
        self.assertEqual(within(([0], [(3, 0, 1)]), ([0], [(3, 1, 0)])), [0])
        self.assertEqual(within(([0], [(3, 0, 1)]), ([1], [(3, 1, 0)])), first(1, 0))

    def test_a_name_in_two_parts_has_one_image(self):
        self.assertEqual(within(([], [(0, 0), (1, 1)]), ([], [(0, 3), (1, 3)])), [0])
        self.assertEqual(within(([], [(0, 3), (1, 3)]), ([], [(0, 0), (1, 1)])), first(3, 3))

    def test_heads_named_twice(self):
        same = ([0, 0], [(3, 0, 1), (3, 1, 0)])
        both = ([0, 1], [(3, 0, 1)])
        self.assertEqual(within(same, both), [0])
        self.assertEqual(within(([0, 0], [(3, 0, 0)]), both), first(0, 0))
        self.assertEqual(within(([0, 1], [(3, 0, 1)]), ([2, 2], [(3, 2, 3)])), [0])
        self.assertEqual(within(([5, 5, 6, 5], [(3, 5, 6)]), ([1, 1, 0, 1], [(3, 1, 0)])), first(6, 5))

    def test_heads_in_another_order(self):
        self.assertEqual(within(([0, 1], [(3, 0, 1)]), ([1, 0], [(3, 0, 1)])), [0])
        self.assertEqual(within(([1, 0], [(3, 0, 1)]), ([1, 0], [(3, 0, 1)])), first(0, 1))
        self.assertEqual(within(([1, 0], [(3, 0, 1), (3, 1, 0)]), ([0, 1], [(3, 0, 1)])), first(1, 0))

    def test_heads_choose_among_the_parts(self):
        parts = [(3, 0, 1), (3, 2, 3), (3, 4, 5)]
        for head in (0, 2, 4):
            self.assertEqual(within(([head], parts), ([0], [(3, 0, 1)])), first(head, head + 1))
            self.assertEqual(within(([head + 1], parts), ([1], [(3, 0, 1)])), first(head, head + 1))

    def test_no_heads(self):
        self.assertEqual(within(([], [(3, 0, 1), (3, 1, 2)]), ([], [(3, 7, 6)])), first(*[None] * 6, 1, 0))
        self.assertEqual(within(([], [(3, 0, 1)]), ([], [(3, 0, 1), (3, 1, 2)])), [0])

    def test_what_is_given_back_is_a_list_of_whole_numbers(self):
        for p in (([], [(0, 0)]), ([], [(1, 0)])):
            given = within(([], [(0, 0)]), p)
            self.assertIs(type(given), list)
            self.assertEqual({type(number) for number in given}, {int})

    def test_as_the_slow_answer(self):
        source = random.Random(3)
        seen = []
        for count in range(1500):
            q, p = some_pair(source)
            maps = slow_maps(p[0], p[1], q[0], q[1])
            seen.append(len(maps))
            expected = [1] + maps[0] if maps else [0]
            with self.subTest(q=q, p=p):
                self.assertEqual(within(q, p, source.choice((0, 7, 8, 255))), expected)
        self.assertGreater(len([maps for maps in seen if maps == 0]), 100)
        self.assertGreater(len([maps for maps in seen if maps > 1]), 100)

    def test_as_the_answers_say(self):
        source = random.Random(4)
        for count in range(300):
            q, p = some_pair(source)
            tables = sorted({part[0] for part in q[1]})
            rows = [some_row(source, tables, 4) for row in range(40)]
            with self.subTest(q=q, p=p):
                if within(q, p) == [0]:
                    self.assertNotIn(tuple(q[0]), slow_answers(p[0], p[1], q[1]))
                else:
                    self.assertLessEqual(set(slow_answers(q[0], q[1], rows)), set(slow_answers(p[0], p[1], rows)))


class TheFirstMap(unittest.TestCase):
    def test_the_first_of_several(self):
        q = ([], [(3, 6, 2), (3, 4, 5), (3, 4, 3)])
        self.assertEqual(within(q, ([], [(3, 0, 1)])), first(4, 3))
        self.assertEqual(within(q, ([], [(3, 1, 0)])), first(2, 6))

    def test_the_lower_name_weighs_more(self):
        q = ([], [(3, 0, 7), (3, 1, 0)])
        self.assertEqual(within(q, ([], [(3, 2, 3)])), first(None, None, 0, 7))
        self.assertEqual(within(q, ([], [(3, 3, 2)])), first(None, None, 0, 1))
        self.assertEqual(within(q, ([], [(3, 0, 7)])), first(0, *[None] * 6, 7))
        self.assertEqual(within(q, ([], [(3, 7, 0)])), first(0, *[None] * 6, 1))

    def test_a_low_name_that_leads_nowhere_is_left(self):
        q = ([], [(3, 0, 1), (3, 2, 3), (3, 3, 4)])
        self.assertEqual(within(q, ([], [(3, 0, 1), (3, 1, 2)])), first(2, 3, 4))
        q = ([], [(3, 0, 0), (4, 0, 1), (3, 2, 2), (4, 2, 3), (5, 3, 2)])
        self.assertEqual(within(q, ([], [(3, 0, 0), (4, 0, 7), (5, 7, 0)])), first(2, *[None] * 6, 3))

    def test_not_the_first_part_but_the_least_names(self):
        q = ([], [(0, 7), (0, 3), (0, 5)])
        self.assertEqual(within(q, ([], [(0, 1), (0, 6)])), first(None, 3, None, None, None, None, 3))

    def test_each_name_of_p_is_told_and_no_other(self):
        q = ([], [(0, 2)])
        for name in range(8):
            expected = [1] + [255] * 8
            expected[1 + name] = 2
            self.assertEqual(within(q, ([], [(0, name)])), expected)
        self.assertEqual(within(q, ([], [(0, name) for name in range(8)])), first(*[2] * 8))

    def test_none_is_0_alone(self):
        self.assertEqual(within(([0], [(3, 0, 1)]), ([0], [(3, 0, 1), (3, 1, 0)])), [0])


class Edges(unittest.TestCase):
    def test_numbers_behind_are_not_looked_at(self):
        q = ([1], [(0, 0), (3, 0, 1), (6, 1, 0, 2)])
        p = ([3], [(3, 4, 3), (0, 4)])
        for behind in (0, 1, 2, 7, 8, 9, 254, 255):
            self.assertEqual(within(q, p, behind), first(None, None, None, 1, 0))
            self.assertEqual(within(p, q, behind), [0])
            self.assertEqual(within(([], [(0, 0)]), ([], [(0, 1)]), behind), first(None, 0))

    def test_names_behind_the_heads_do_not_bind(self):
        q = with_number(question([0], [(3, 0, 1)]), 3, 1)
        p = with_number(question([0], [(3, 0, 1)]), 3, 0)
        self.assertEqual(cq_within(q, p), first(0, 1))

    def test_names_behind_a_parts_places_do_not_count(self):
        self.assertEqual(within(([], [(0, 0, 1, 2)]), ([], [(0, 3, 3, 3)])), first(None, None, None, 0))
        self.assertEqual(within(([], [(3, 0, 1, 5)]), ([], [(3, 3, 4, 3)])), first(None, None, None, 0, 1))

    def test_parts_behind_the_last_do_not_count(self):
        q = with_number(question([], [(0, 0), (1, 0)]), 1, 1)
        p = with_number(question([], [(0, 0), (1, 0)]), 1, 1)
        self.assertEqual(cq_within(q, question([], [(1, 0)])), [0])
        self.assertEqual(cq_within(question([], [(0, 0)]), p), first(0))

    def test_one_part_and_ten_parts(self):
        ten = [(0, name) for name in range(8)] + [(3, 0, 7), (4, 7, 0)]
        self.assertEqual(within(([7], ten), ([0], [(4, 0, 1)])), first(7, 0))
        self.assertEqual(within(([0], [(4, 0, 1)]), ([7], ten)), [0])

    def test_the_tenth_part_counts(self):
        nine = [(0, 0)] * 9
        self.assertEqual(within(([0], nine + [(1, 0)]), ([0], [(1, 0)])), first(0))
        self.assertEqual(within(([0], nine + [(0, 0)]), ([0], [(1, 0)])), [0])
        self.assertEqual(within(([0], [(0, 0)]), ([0], nine + [(0, 0)])), first(0))
        self.assertEqual(within(([0], [(0, 0)]), ([0], nine + [(1, 0)])), [0])

    def test_four_heads(self):
        q = ([4, 5, 6, 7], [(6, 4, 5, 6), (3, 6, 7)])
        self.assertEqual(within(q, ([0, 1, 2, 3], [(3, 2, 3), (6, 0, 1, 2)])), first(4, 5, 6, 7))
        self.assertEqual(within(q, ([0, 1, 2, 2], [(3, 2, 3), (6, 0, 1, 2)])), [0])

    def test_the_fourth_head_counts(self):
        q = ([0, 0, 0, 1], [(0, 0), (0, 1)])
        self.assertEqual(within(q, ([0, 0, 0, 0], [(0, 0)])), [0])
        self.assertEqual(within(q, ([0, 0, 0, 2], [(0, 0), (0, 2)])), first(0, None, 1))

    def test_a_ring_of_eight(self):
        self.assertEqual(within(([], RING), ([], RING)), first(*range(8)))
        self.assertEqual(within(([5], RING), ([0], RING)), first(5, 6, 7, 0, 1, 2, 3, 4))
        self.assertEqual(within(([0, 1], RING), ([0, 2], RING)), [0])

    def test_as_many_parts_and_names_as_there_may_be(self):
        q = RING + [(3, 0, 4), (3, 4, 0)]
        self.assertEqual(within(([], q), ([], q)), [1] + slow_maps([], q, [], q)[0])
        self.assertEqual(within(([], q), ([], RING + [(4, 0, 4), (4, 4, 0)])), [0])
        self.assertEqual(within(([7], q), ([7], q)), first(*range(8)))

    def test_far_too_many_maps_to_go_through_each(self):
        loose = [(0, name) for name in range(8)]
        self.assertEqual(within(([], loose), ([], loose)), first(*[0] * 8))
        two_ring = loose + [(3, 0, 1), (3, 1, 0)]
        three_ring = [(0, name) for name in range(5)] + [(3, 5, 6), (3, 6, 7), (3, 7, 5)]
        self.assertEqual(within(([], two_ring), ([], three_ring)), [0])


class WrongInputs(unittest.TestCase):
    right = question([0, 1], [(0, 0), (3, 0, 1)])

    def test_all_as_told_is_answered(self):
        self.assertEqual(cq_within(self.right, self.right), first(0, 1))

    def test_what_is_no_question(self):
        for why, numbers in wrong_questions():
            with self.subTest(why):
                self.assertEqual(cq_within(numbers, self.right), [-2])
                self.assertEqual(cq_within(self.right, numbers), [-2])
                self.assertEqual(cq_within(numbers, numbers), [-2])

    def test_not_as_many_heads(self):
        told = [question([0] * heads, [(0, 0)]) for heads in range(5)]
        for heads, q in enumerate(told):
            for others, p in enumerate(told):
                self.assertEqual(cq_within(q, p), first(0) if heads == others else [-3])

    def test_not_as_many_heads_though_there_is_no_map(self):
        self.assertEqual(within(([0], [(0, 0)]), ([], [(1, 0)])), [-3])

    def test_no_question_comes_ahead_of_the_heads(self):
        other_heads = question([0], [(0, 0)])
        self.assertEqual(cq_within(other_heads, self.right), [-3])
        wrong = with_number(self.right, 6, 8)
        self.assertEqual(cq_within(other_heads, wrong), [-2])
        self.assertEqual(cq_within(wrong, other_heads), [-2])
        for heads in (-1, 5):
            self.assertEqual(cq_within(self.right, with_number(self.right, 0, heads)), [-2])
            self.assertEqual(cq_within(with_number(self.right, 0, heads), self.right), [-2])


class HandedIn(unittest.TestCase):
    def test_what_is_handed_in_stays_as_it_was(self):
        q = question([1, 0], [(3, 0, 1), (0, 1)], behind=9)
        p = question([3, 2], [(3, 2, 3)], behind=9)
        before = (list(q), list(p))
        self.assertEqual(cq_within(q, p), first(None, None, 0, 1))
        self.assertEqual(cq_within(p, q), [0])
        self.assertEqual(cq_within(q, Untouched([0] * 46)), [-2])
        self.assertEqual((list(q), list(p)), before)

    def test_one_list_as_both(self):
        q = question([0], [(3, 0, 1)])
        self.assertEqual(cq_within(q, q), first(0, 1))

    def test_a_second_call_answers_as_the_first(self):
        first_time = within(([0], [(3, 0, 1)]), ([1], [(3, 1, 2)]))
        first_time[1] = 77
        self.assertEqual(within(([0], [(0, 0)]), ([7], [(0, 7)])), first(*[None] * 7, 0))
        self.assertEqual(within(([0], [(8, 0)]), ([0], [(0, 0)])), [-2])
        self.assertEqual(within(([0], [(3, 0, 1)]), ([1], [(3, 1, 2)])), first(None, 0, 1))


if __name__ == "__main__":
    unittest.main()
