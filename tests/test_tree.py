"""Promise 7: cq_tree."""

import random
import unittest

from askedtables.questions import cq_tree
from tests.asking import PLACES, makes_tree, question, slow_tree, some_question, with_number, wrong_questions


def tree(parts, behind=0, heads=()):
    return cq_tree(question(heads, parts, behind))


def row(*above):
    """What is answered with these parts above the parts."""
    return [1] + list(above) + [255] * (10 - len(above))


ROUND = [(3, 0, 1), (3, 1, 2), (3, 2, 0)]


class OrdinaryInputs(unittest.TestCase):
    def test_one_part(self):
        for table, places in enumerate(PLACES):
            self.assertEqual(tree([(table, 5, 6, 7)[:1 + places]]), row(0))
        self.assertEqual(tree([(6, 2, 2, 2)]), [1, 0, 255, 255, 255, 255, 255, 255, 255, 255, 255])

    def test_a_chain(self):
        self.assertEqual(tree([(3, 0, 1), (3, 1, 2)]), row(0, 0))
        self.assertEqual(tree([(3, 0, 1), (3, 1, 2), (3, 2, 3)]), row(0, 0, 1))
        self.assertEqual(tree([(3, 0, 1), (3, 1, 2), (3, 2, 3), (3, 3, 4), (3, 4, 5)]), row(0, 0, 1, 2, 3))

    def test_a_chain_told_in_another_order(self):
        self.assertEqual(tree([(3, 0, 1), (3, 2, 3), (3, 1, 2)]), row(0, 2, 0))
        self.assertEqual(tree([(3, 1, 2), (3, 0, 1), (3, 2, 3)]), row(0, 0, 0))
        self.assertEqual(tree([(3, 2, 3), (3, 3, 4), (3, 0, 1), (3, 1, 2)]), row(0, 0, 3, 0))

    def test_a_name_in_three_parts(self):
        self.assertEqual(tree([(3, 0, 1), (3, 0, 2), (3, 0, 3)]), row(0, 0, 0))
        self.assertEqual(tree([(3, 0, 1), (6, 1, 0, 2), (3, 0, 2)]), row(0, 0, 1))
        self.assertEqual(tree([(3, 0, 1), (3, 0, 2), (6, 0, 1, 2)]), row(0, 2, 0))

    def test_parts_that_share_no_name(self):
        self.assertEqual(tree([(0, 0), (1, 1)]), row(0, 0))
        self.assertEqual(tree([(0, 0), (3, 1, 2), (6, 3, 4, 5), (0, 6)]), row(0, 0, 0, 0))
        self.assertEqual(tree([(3, 0, 1), (0, 5), (3, 1, 2), (1, 6)]), row(0, 0, 0, 0))

    def test_parts_that_go_round(self):
        self.assertEqual(tree(ROUND), [0])
        self.assertEqual(tree([(3, 0, 1), (4, 1, 2), (5, 2, 3), (3, 3, 0)]), [0])
        self.assertEqual(tree([(6, 0, 1, 2), (6, 2, 3, 4), (6, 4, 5, 0)]), [0])

    def test_parts_that_go_round_under_one_that_has_all_their_names(self):
        self.assertEqual(tree(ROUND + [(6, 0, 1, 2)]), row(0, 3, 3, 0))
        self.assertEqual(tree([(6, 0, 1, 2)] + ROUND), row(0, 0, 0, 0))
        self.assertEqual(tree([(3, 0, 1), (6, 2, 1, 0), (3, 1, 2), (3, 2, 0)]), row(0, 0, 1, 1))

    def test_two_names_that_stand_together(self):
        self.assertEqual(tree([(6, 0, 1, 2), (6, 0, 1, 3), (6, 0, 1, 4)]), row(0, 0, 0))
        self.assertEqual(tree([(6, 0, 1, 2), (6, 1, 2, 3), (6, 2, 3, 4)]), row(0, 0, 1))
        self.assertEqual(tree([(6, 0, 1, 2), (6, 1, 2, 3), (6, 3, 4, 0)]), [0])

    def test_one_part_twice(self):
        self.assertEqual(tree([(3, 0, 1), (3, 0, 1)]), row(0, 0))
        self.assertEqual(tree([(0, 1), (3, 0, 1), (3, 0, 1)]), row(0, 0, 1))
        self.assertEqual(tree(ROUND + [(3, 0, 1)]), [0])

    def test_a_name_twice_in_a_part(self):
        self.assertEqual(tree([(3, 0, 0), (3, 0, 1), (6, 1, 1, 2)]), row(0, 0, 1))
        self.assertEqual(tree([(6, 0, 1, 0), (6, 1, 2, 1), (6, 2, 0, 2)]), [0])

    def test_tables_do_not_matter(self):
        for table in (3, 4, 5):
            self.assertEqual(tree([(table, 0, 1), (3, 2, 3), (4, 1, 2)]), row(0, 2, 0))
        self.assertEqual(tree([(0, 0), (1, 0), (2, 0)]), row(0, 0, 0))

    def test_heads_do_not_matter(self):
        for heads in ([], [0], [2, 2], [0, 1, 2], [3, 2, 1, 0]):
            self.assertEqual(tree([(3, 0, 1), (3, 2, 3), (3, 1, 2)], heads=heads), row(0, 2, 0))
        for heads in ([], [0], [2, 1, 0, 0]):
            self.assertEqual(tree(ROUND, heads=heads), [0])

    def test_what_is_given_back_is_a_list_of_whole_numbers(self):
        for parts in ([(0, 0)], ROUND):
            given = tree(parts)
            self.assertIs(type(given), list)
            self.assertEqual({type(number) for number in given}, {int})

    def test_as_the_slow_answer(self):
        source = random.Random(10)
        seen = [0, 0]
        for count in range(800):
            tables = source.choice(((3,), (3, 6), (0, 3, 6), (6, 7), (0, 1, 3)))
            heads, parts = some_question(source, tables, source.randint(3, 8), 5, source.randint(0, 4))
            above = slow_tree(parts)
            seen[above is None] += 1
            with self.subTest(parts=parts):
                expected = [0] if above is None else row(*above)
                self.assertEqual(tree(parts, source.choice((0, 7, 8, 255)), heads), expected)
        self.assertGreater(min(seen), 50)


class TheFirstRow(unittest.TestCase):
    def test_the_first_part_is_the_root(self):
        for parts in ([(0, 0), (3, 0, 1), (3, 1, 2)], [(3, 1, 2), (3, 0, 1), (0, 0)], [(0, 0), (0, 0), (0, 0)]):
            self.assertEqual(tree(parts)[:2], [1, 0])

    def test_each_other_hangs_as_low_as_can_be(self):
        self.assertEqual(tree([(0, 0), (0, 0), (0, 0), (0, 0)]), row(0, 0, 0, 0))
        self.assertEqual(tree([(0, 5), (3, 0, 1), (3, 1, 2), (0, 1)]), row(0, 0, 1, 1))
        self.assertEqual(tree([(3, 0, 1), (0, 5), (3, 0, 2), (0, 2)]), row(0, 0, 0, 2))

    def test_a_part_that_hangs_from_a_later_one(self):
        self.assertEqual(tree([(0, 0), (3, 1, 2), (3, 2, 3), (3, 0, 1)]), row(0, 3, 1, 0))
        self.assertEqual(tree([(0, 0), (3, 1, 2), (3, 0, 3), (6, 1, 3, 2)]), row(0, 3, 0, 2))

    def test_a_low_part_that_leads_nowhere_is_left(self):
        self.assertEqual(tree([(3, 0, 1), (0, 3), (3, 1, 2), (6, 2, 1, 3)]), row(0, 3, 0, 2))
        self.assertEqual(tree([(0, 5), (3, 0, 1), (0, 2), (6, 0, 1, 2), (3, 1, 2)]), row(0, 0, 3, 1, 3))

    def test_the_rows_are_those_of_the_slow_answer(self):
        for parts in (
            [(0, 0), (3, 1, 2), (3, 2, 3), (3, 0, 1)], [(0, 0), (3, 1, 2), (3, 0, 3), (6, 1, 3, 2)],
            [(3, 0, 1), (0, 3), (3, 1, 2), (6, 2, 1, 3)], [(0, 5), (3, 0, 1), (0, 2), (6, 0, 1, 2), (3, 1, 2)],
        ):
            self.assertEqual(tree(parts), row(*slow_tree(parts)))


class Edges(unittest.TestCase):
    def test_six_parts_with_a_tree(self):
        self.assertEqual(tree([(3, name, name + 1) for name in range(6)]), row(0, 0, 1, 2, 3, 4))
        self.assertEqual(tree([(3, 0, name) for name in range(1, 7)]), row(0, 0, 0, 0, 0, 0))
        self.assertEqual(tree([(0, name) for name in range(6)]), row(0, 0, 0, 0, 0, 0))
        self.assertEqual(tree([(7, 5, 6, 7)] * 6), row(0, 0, 0, 0, 0, 0))
        mixed = [(3, 6, 7), (3, 0, 1), (6, 1, 2, 3), (3, 5, 6), (6, 3, 4, 5), (0, 4)]
        self.assertEqual(tree(mixed), row(0, 2, 4, 0, 3, 4))
        self.assertTrue(makes_tree(mixed, [0, 2, 4, 0, 3, 4]))

    def test_six_parts_without_one(self):
        loose = [(0, 3), (0, 4), (0, 5)]
        self.assertEqual(tree(loose + ROUND), [0])
        self.assertEqual(tree(ROUND + loose), [0])
        self.assertEqual(tree([(3, name, (name + 1) % 6) for name in range(6)]), [0])
        self.assertEqual(tree([(3, low, high) for low in range(4) for high in range(low + 1, 4)]), [0])

    def test_six_parts_as_the_slow_answer(self):
        source = random.Random(11)
        for count in range(12):
            parts = []
            while len(parts) != 6:
                heads, parts = some_question(source, source.choice(((3, 6), (0, 3, 6))), 8, 6, 0)
            above = slow_tree(parts)
            with self.subTest(parts=parts):
                self.assertEqual(tree(parts), [0] if above is None else row(*above))

    def test_highest_names(self):
        self.assertEqual(tree([(7, 7, 6, 5), (3, 5, 4), (0, 7)]), row(0, 0, 0))
        self.assertEqual(tree([(3, 7, 6), (3, 6, 5), (3, 5, 7)]), [0])

    def test_numbers_behind_are_not_looked_at(self):
        for behind in (0, 1, 2, 7, 8, 254, 255):
            self.assertEqual(tree([(3, 0, 1), (0, 2), (3, 1, 2)], behind), row(0, 2, 0))
            self.assertEqual(tree(ROUND, behind), [0])
            self.assertEqual(tree([(0, 0)], behind), row(0))

    def test_names_behind_a_parts_places_do_not_count(self):
        self.assertEqual(tree([(3, 0, 1, 2), (3, 1, 2, 0), (0, 2, 0, 0)]), row(0, 0, 1))
        self.assertEqual(tree([(3, 0, 1, 2), (3, 1, 2, 0), (3, 2, 0, 1)]), [0])

    def test_parts_behind_the_last_do_not_count(self):
        self.assertEqual(cq_tree(with_number(question([], ROUND), 1, 2)), row(0, 0))
        under = question([], ROUND + [(6, 0, 1, 2)])
        self.assertEqual(cq_tree(with_number(under, 1, 3)), [0])


class WrongInputs(unittest.TestCase):
    def test_what_is_no_question(self):
        for why, numbers in wrong_questions():
            with self.subTest(why):
                self.assertEqual(cq_tree(numbers), [-2])

    def test_more_than_ten_parts(self):
        right = question([0], [(0, 0)] * 6)
        for parts in (11, 12, 40, 255, 2147483647):
            self.assertEqual(cq_tree(with_number(right, 1, parts)), [-2])


class HandedIn(unittest.TestCase):
    def test_what_is_handed_in_stays_as_it_was(self):
        for parts, expected in (([(3, 0, 1), (0, 2), (3, 1, 2)], row(0, 2, 0)), (ROUND, [0])):
            numbers = question([1, 0], parts, behind=9)
            before = list(numbers)
            self.assertEqual(cq_tree(numbers), expected)
            self.assertEqual(list(numbers), before)

    def test_a_second_call_answers_as_the_first(self):
        first = tree([(3, 0, 1), (0, 2), (3, 1, 2)])
        first[1] = 77
        self.assertEqual(tree(ROUND), [0])
        self.assertEqual(tree([(8, 0)]), [-2])
        self.assertEqual(tree([(3, 0, 1), (0, 2), (3, 1, 2)]), row(0, 2, 0))


if __name__ == "__main__":
    unittest.main()
