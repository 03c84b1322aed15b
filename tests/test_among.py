"""Promise 4: cq_among."""

import random
import unittest

from askedtables.questions import cq_among
from tests.asking import (
    Untouched, question, slow_answers, slow_maps, some_pair, some_row, with_number, wrong_questions,
)


def among(q, others, behind=0):
    """Each question is told by its heads and its parts."""
    told = Untouched(question(heads, parts, behind) for heads, parts in others)
    return cq_among(len(told), question(q[0], q[1], behind), told)


EDGE = ([0], [(3, 0, 1)])
LOOP = ([0], [(3, 0, 0)])
PATH = ([0], [(3, 0, 1), (3, 1, 2)])
BACK = ([1], [(3, 0, 1)])
MARKED = ([0], [(3, 0, 1), (0, 1)])


class OrdinaryInputs(unittest.TestCase):
    def test_among_none(self):
        for q in (EDGE, LOOP, PATH, ([], [(0, 0)]), ([0, 0, 0, 0], [(0, 0)] * 10)):
            self.assertEqual(among(q, []), [0])

    def test_among_one(self):
        self.assertEqual(among(PATH, [EDGE]), [1])
        self.assertEqual(among(EDGE, [PATH]), [0])
        self.assertEqual(among(EDGE, [BACK]), [0])
        self.assertEqual(among(LOOP, [BACK]), [1])

    def test_among_several(self):
        self.assertEqual(among(EDGE, [PATH, LOOP, BACK]), [0])
        self.assertEqual(among(PATH, [LOOP, MARKED, BACK]), [0])
        for place in range(4):
            others = [LOOP, MARKED, BACK]
            others.insert(place, EDGE)
            self.assertEqual(among(PATH, others), [1])

    def test_among_eight(self):
        others = [LOOP, PATH, BACK, MARKED, LOOP, PATH, BACK, MARKED]
        self.assertEqual(among(EDGE, others), [0])
        for place in range(8):
            self.assertEqual(among(EDGE, others[:place] + [EDGE] + others[place + 1:]), [1])

    def test_several_hold_it(self):
        self.assertEqual(among(LOOP, [EDGE, LOOP, PATH, BACK]), [1])
        self.assertEqual(among(EDGE, [EDGE] * 8), [1])

    def test_no_one_alone_holds_it_then_not_all_together(self):
        either = [([0], [(3, 0, 1), (0, 0)]), ([0], [(3, 0, 1), (1, 0)]), ([0], [(3, 0, 1), (2, 0)])]
        self.assertEqual(among(EDGE, either), [0])
        self.assertEqual(among(([0], [(3, 0, 1), (1, 0)]), either), [1])

    def test_tables_of_one_two_and_three_places(self):
        parts = [(0, 0), (1, 0), (2, 0), (3, 0, 1), (4, 0, 1), (5, 0, 1), (6, 0, 1, 2), (7, 0, 1, 2)]
        others = [([0], [part]) for part in parts]
        for other in others:
            self.assertEqual(among(other, others), [1])
            self.assertEqual(among(other, [right for right in others if right != other]), [0])

    def test_a_name_twice_in_a_part(self):
        self.assertEqual(among(([], [(6, 0, 1, 0)]), [([], [(6, 0, 0, 1)]), ([], [(6, 0, 1, 1)])]), [0])
        self.assertEqual(among(([], [(6, 0, 0, 0)]), [([], [(6, 0, 0, 1)]), ([], [(6, 0, 1, 1)])]), [1])

    def test_heads_named_twice_and_in_another_order(self):
        q = ([0, 1], [(3, 0, 1)])
        self.assertEqual(among(q, [([0, 0], [(3, 0, 1)]), ([1, 1], [(3, 0, 1)]), ([1, 0], [(3, 0, 1)])]), [0])
        self.assertEqual(among(q, [([0, 0], [(3, 0, 1)]), ([1, 0], [(3, 1, 0)])]), [1])

    def test_no_heads(self):
        self.assertEqual(among(([], [(0, 0), (1, 1)]), [([], [(2, 0)]), ([], [(1, 7)])]), [1])
        self.assertEqual(among(([], [(0, 0), (1, 1)]), [([], [(2, 0)]), ([], [(1, 7), (0, 7)])]), [0])

    def test_what_is_given_back_is_a_list_of_one_whole_number(self):
        for others in ([], [EDGE], [LOOP]):
            given = among(EDGE, others)
            self.assertIs(type(given), list)
            self.assertEqual([type(number) for number in given], [int])

    def test_as_the_slow_answer(self):
        source = random.Random(5)
        seen = [0, 0]
        for count in range(500):
            q, p = some_pair(source)
            others = [p]
            while len(others) < source.randint(1, 8):
                other = some_pair(source)[0]
                if len(other[0]) == len(q[0]):
                    others.append(other)
            expected = int(any(slow_maps(other[0], other[1], q[0], q[1]) for other in others))
            seen[expected] += 1
            with self.subTest(q=q, others=others):
                self.assertEqual(among(q, others, source.choice((0, 7, 8, 255))), [expected])
        self.assertGreater(min(seen), 50)

    def test_as_the_answers_say(self):
        source = random.Random(6)
        for count in range(200):
            q, p = some_pair(source)
            others = [p] + [other for other in some_pair(source) if len(other[0]) == len(q[0])]
            rows = q[1]
            if among(q, others) == [1]:
                rows = [some_row(source, sorted({part[0] for part in q[1]}), 4) for row in range(40)]
            together = {answer for other in others for answer in slow_answers(other[0], other[1], rows)}
            held = set(slow_answers(q[0], q[1], rows)) <= together
            self.assertEqual(among(q, others), [int(held)])


class Edges(unittest.TestCase):
    def test_numbers_behind_are_not_looked_at(self):
        for behind in (0, 1, 2, 7, 8, 9, 254, 255):
            self.assertEqual(among(MARKED, [LOOP, PATH, EDGE], behind), [1])
            self.assertEqual(among(MARKED, [LOOP, PATH, BACK], behind), [0])
            self.assertEqual(among(MARKED, [], behind), [0])

    def test_names_behind_the_heads_and_parts_behind_the_last_do_not_count(self):
        q = with_number(question([0], [(3, 0, 1)]), 3, 1)
        p = with_number(question([0], [(3, 0, 1), (0, 0)]), 1, 1)
        self.assertEqual(cq_among(1, q, [p]), [1])
        self.assertEqual(cq_among(1, p, [question([0], [(0, 0)])]), [0])

    def test_one_part_and_ten_parts(self):
        nine = [(0, 0)] * 9
        self.assertEqual(among(([0], nine + [(1, 0)]), [([0], [(2, 0)]), ([0], [(1, 0)])]), [1])
        self.assertEqual(among(([0], [(0, 0)]), [([0], nine + [(1, 0)])]), [0])
        self.assertEqual(among(([0], [(0, 0)]), [([0], nine + [(1, 0)]), ([0], nine + [(0, 0)])]), [1])

    def test_as_many_parts_names_heads_and_questions_as_there_may_be(self):
        ring = [(3, name, (name + 1) % 8) for name in range(8)]
        q = ([0, 2, 4, 6], ring + [(6, 0, 1, 2), (7, 5, 6, 7)])
        wrong = ([0, 2, 4, 6], ring + [(6, 0, 1, 2), (7, 5, 7, 6)])
        turned = ([2, 4, 6, 0], ring + [(6, 2, 3, 4), (7, 7, 0, 1)])
        self.assertEqual(among(q, [wrong] * 8), [0])
        self.assertEqual(among(q, [wrong] * 7 + [turned]), [1])
        self.assertEqual(among(q, [q] * 8), [1])

    def test_far_too_many_maps_to_go_through_each(self):
        two_ring = [(0, name) for name in range(8)] + [(3, 0, 1), (3, 1, 0)]
        three_ring = [(0, name) for name in range(5)] + [(3, 5, 6), (3, 6, 7), (3, 7, 5)]
        self.assertEqual(among(([], two_ring), [([], three_ring)] * 8), [0])
        self.assertEqual(among(([], two_ring), [([], two_ring[:8])] * 8), [1])


class WrongInputs(unittest.TestCase):
    right = question([0, 1], [(0, 0), (3, 0, 1)])
    other_heads = question([0], [(0, 0)])

    def test_all_as_told_is_answered(self):
        self.assertEqual(cq_among(2, self.right, [self.right, self.right]), [1])

    def test_k_not_as_told(self):
        for k in (-2147483648, -8, -2, -1, 9, 10, 255, 2147483647):
            self.assertEqual(cq_among(k, self.right, Untouched()), [-2])

    def test_what_is_no_question(self):
        for why, numbers in wrong_questions():
            with self.subTest(why):
                self.assertEqual(cq_among(0, numbers, []), [-2])
                self.assertEqual(cq_among(1, numbers, [self.right]), [-2])
                self.assertEqual(cq_among(1, self.right, [numbers]), [-2])
                self.assertEqual(cq_among(-1, numbers, []), [-2])
                self.assertEqual(cq_among(9, numbers, []), [-2])

    def test_one_of_the_questions_is_none(self):
        for why, numbers in wrong_questions():
            for place in (0, 3, 7):
                others = [self.right] * 8
                others[place] = numbers
                with self.subTest(why, place=place):
                    self.assertEqual(cq_among(8, self.right, others), [-2])

    def test_not_as_many_heads(self):
        told = [question([0] * heads, [(0, 0)]) for heads in range(5)]
        for heads, q in enumerate(told):
            for others, p in enumerate(told):
                self.assertEqual(cq_among(1, q, [p]), [1] if heads == others else [-3])

    def test_one_of_the_questions_has_not_as_many_heads(self):
        for place in range(8):
            others = [self.right] * 8
            others[place] = self.other_heads
            self.assertEqual(cq_among(8, self.right, others), [-3])

    def test_no_question_comes_ahead_of_the_heads(self):
        wrong = with_number(self.right, 6, 8)
        self.assertEqual(cq_among(2, self.right, [self.other_heads, self.right]), [-3])
        self.assertEqual(cq_among(2, self.right, [self.other_heads, wrong]), [-2])
        self.assertEqual(cq_among(2, self.right, [wrong, self.other_heads]), [-2])
        self.assertEqual(cq_among(1, wrong, [self.other_heads]), [-2])
        self.assertEqual(cq_among(1, self.right, [with_number(self.right, 0, 5)]), [-2])
        self.assertEqual(cq_among(1, with_number(self.right, 0, -1), [self.right]), [-2])


class HandedIn(unittest.TestCase):
    def test_what_is_handed_in_stays_as_it_was(self):
        q = question([1, 0], [(3, 0, 1), (0, 1)], behind=9)
        others = Untouched([question([0, 1], [(3, 0, 1)], behind=9), question([3, 2], [(3, 2, 3)], behind=9)])
        before = (list(q), [list(other) for other in others])
        self.assertEqual(cq_among(2, q, others), [1])
        self.assertEqual(cq_among(2, with_number(q, 1, 11), others), [-2])
        self.assertEqual(cq_among(2, with_number(q, 0, 1), others), [-3])
        self.assertEqual((list(q), [list(other) for other in others]), before)

    def test_one_list_as_all(self):
        q = question([0], [(3, 0, 1)])
        self.assertEqual(cq_among(2, q, [q, q]), [1])

    def test_a_second_call_answers_as_the_first(self):
        first = among(EDGE, [LOOP, EDGE])
        first.append(77)
        self.assertEqual(among(EDGE, [LOOP]), [0])
        self.assertEqual(among(EDGE, [([], [(0, 0)])]), [-3])
        self.assertEqual(among(EDGE, [LOOP, EDGE]), [1])


if __name__ == "__main__":
    unittest.main()
