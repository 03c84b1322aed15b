"""Promise 5: cq_shows."""

import random
import unittest

from askedtables.questions import cq_answers, cq_shows
from tests.asking import PLACES, question, some_question, with_number, wrong_questions


def shows(heads, parts, behind=0):
    return cq_shows(question(heads, parts, behind))


def shown(*parts):
    """What is answered with these parts, told without what is behind their places."""
    numbers = [len(parts)]
    for part in parts:
        numbers += list(part) + [0] * (4 - len(part))
    return numbers + [0] * (41 - len(numbers))


class OrdinaryInputs(unittest.TestCase):
    def test_one_part_number_by_number(self):
        self.assertEqual(shows([], [(0, 5)]), [1, 0, 5] + [0] * 38)
        self.assertEqual(shows([], [(4, 5, 6)]), [1, 4, 5, 6] + [0] * 37)
        self.assertEqual(shows([], [(7, 5, 6, 3)]), [1, 7, 5, 6, 3] + [0] * 36)

    def test_each_table(self):
        for table, places in enumerate(PLACES):
            part = (table, 7, 6, 5)[:1 + places]
            self.assertEqual(shows([7], [part]), shown(part))
            self.assertEqual(shows([7], [part, part]), shown(part, part))

    def test_parts_stand_in_their_order(self):
        parts = [(6, 3, 2, 1), (0, 7), (3, 0, 7), (0, 1), (6, 3, 2, 1), (1, 0)]
        self.assertEqual(shows([3], parts), shown(*parts))
        self.assertEqual(shows([3], parts[::-1]), shown(*parts[::-1]))

    def test_a_name_twice_in_a_part(self):
        self.assertEqual(shows([2], [(3, 2, 2), (7, 1, 2, 1)]), shown((3, 2, 2), (7, 1, 2, 1)))

    def test_heads_are_not_shown(self):
        for heads in ([], [0], [1, 1], [1, 0, 1], [0, 0, 0, 0]):
            self.assertEqual(shows(heads, [(3, 0, 1), (0, 0)]), shown((3, 0, 1), (0, 0)))

    def test_what_is_given_back_is_a_list_of_41_whole_numbers(self):
        for parts in ([(0, 0)], [(7, 0, 1, 2)] * 10):
            given = shows([0], parts)
            self.assertIs(type(given), list)
            self.assertEqual([type(number) for number in given], [int] * 41)

    def test_the_heads_are_an_answer_in_what_is_shown(self):
        source = random.Random(7)
        for count in range(100):
            heads, parts = some_question(source, range(8), 8, 10, source.randint(0, 4))
            numbers = question(heads, parts)
            given = shows(heads, parts)
            self.assertEqual(given, shown(*parts))
            found = cq_answers(given[0], 65536, numbers, given[1:1 + 4 * given[0]])
            answers = [found[at:at + len(heads)] for at in range(1, len(found), max(1, len(heads)))]
            self.assertTrue(heads in answers if heads else found == [1])


class Edges(unittest.TestCase):
    def test_ten_parts(self):
        parts = [(7, 7, 7, 7)] * 10
        self.assertEqual(shows([7], parts), [10] + [7] * 40)
        parts = [(7, 0, 1, 2), (6, 3, 4, 5), (5, 6, 7), (4, 7, 6), (3, 5, 4)]
        parts += [(2, 3), (1, 2), (0, 1), (6, 0, 0, 0), (0, 7)]
        self.assertEqual(shows([7, 6, 5, 4], parts), shown(*parts))

    def test_numbers_behind_a_parts_places_are_shown_as_0(self):
        for behind in (1, 2, 7, 8, 254, 255):
            parts = [(2, 1), (5, 1, 3), (6, 1, 3, 4)]
            self.assertEqual(shows([1], parts, behind), shown(*parts))
            self.assertEqual(shows([], [(0, 0)], behind), [1] + [0] * 40)

    def test_parts_behind_the_last_are_shown_as_0(self):
        parts = [(0, name) for name in range(8)] + [(3, 6, 7), (6, 1, 2, 3)]
        for count in range(1, 11):
            numbers = with_number(question([0], parts), 1, count)
            self.assertEqual(cq_shows(numbers), shown(*parts[:count]))

    def test_parts_behind_the_last_may_be_none(self):
        numbers = with_number(question([], [(0, 4), (200, 100, 100, 100), (3, 9, 9)]), 1, 1)
        self.assertEqual(cq_shows(numbers), shown((0, 4)))


class WrongInputs(unittest.TestCase):
    def test_what_is_no_question(self):
        for why, numbers in wrong_questions():
            with self.subTest(why):
                self.assertEqual(cq_shows(numbers), [-2])


class HandedIn(unittest.TestCase):
    def test_what_is_handed_in_stays_as_it_was(self):
        numbers = question([1, 0], [(3, 0, 1), (0, 1)], behind=9)
        before = list(numbers)
        given = cq_shows(numbers)
        self.assertEqual(given, shown((3, 0, 1), (0, 1)))
        given[1] = 77
        self.assertEqual(list(numbers), before)

    def test_a_second_call_answers_as_the_first(self):
        first = shows([0], [(3, 0, 1)])
        first.append(77)
        self.assertEqual(shows([0], [(0, 0), (1, 1)]), shown((0, 0), (1, 1)))
        self.assertEqual(shows([0], [(8, 0)]), [-2])
        self.assertEqual(shows([0], [(3, 0, 1)]), shown((3, 0, 1)))


if __name__ == "__main__":
    unittest.main()
