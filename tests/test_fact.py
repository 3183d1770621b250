"""fact answers how many are given; -1 where it can't be a fact, -4 where it's given, -7 where there are 5."""

import unittest

from believed.house import House
from tests.spelling import LARGEST, fact, firsts, gone, rule

FIVE = [fact(k % 4, k, 19 - k) for k in range(5)]


class FactIsTaken(unittest.TestCase):

    def test_how_many_are_given(self):
        self.assertEqual(firsts(*FIVE), [1, 2, 3, 4, 5])

    def test_the_same_values_in_another_table_or_order(self):
        self.assertEqual(firsts(fact(0, 1, 2), fact(1, 1, 2), fact(0, 2, 1), fact(2, 1, 0)), [1, 2, 3, 4])

    def test_every_table_and_the_first_and_last_value(self):
        for table in range(4):
            for first in (0, 1, 18, 19):
                for second in (0, 1, 18, 19):
                    self.assertEqual(firsts(fact(table, first, second)), [1], (table, first, second))

    def test_rules_do_not_count(self):
        self.assertEqual(firsts(*[rule([0, 0, 0], [0, 0, 0])] * 3, fact(0, 0, 0)), [0, 1, 2, 1])

    def test_facts_stand_in_order(self):
        house = House()
        for given in ((3, 0, 0), (0, 2, 1), (0, 1, 9), (0, 1, 10), (1, 0, 0)):
            house.give_fact(*given)
        self.assertEqual(house.facts, [(0, 1, 9), (0, 1, 10), (0, 2, 1), (1, 0, 0), (3, 0, 0)])


class FactIsRefused(unittest.TestCase):

    def test_no_such_table(self):
        for table in (4, 5, 19, LARGEST):
            self.assertEqual(firsts(fact(table, 0, 0)), [-1], table)

    def test_a_value_that_is_not_below_20(self):
        for value in (20, 21, 99, 100, LARGEST):
            self.assertEqual(firsts(fact(0, value, 0)), [-1], value)
            self.assertEqual(firsts(fact(0, 0, value)), [-1], value)
            self.assertEqual(firsts(fact(3, value, value)), [-1], value)

    def test_it_is_given(self):
        self.assertEqual(firsts(fact(3, 19, 0), fact(3, 19, 0), fact(3, 19, 0)), [1, -4, -4])

    def test_each_given_one_is_known_again(self):
        self.assertEqual(firsts(*FIVE[:4], *FIVE[:4]), [1, 2, 3, 4, -4, -4, -4, -4])

    def test_the_fifth_and_the_sixth(self):
        self.assertEqual(firsts(*FIVE, fact(3, 7, 7)), [1, 2, 3, 4, 5, -7])

    def test_given_comes_before_full(self):
        self.assertEqual(firsts(*FIVE, *FIVE), [1, 2, 3, 4, 5, -4, -4, -4, -4, -4])

    def test_no_such_fact_can_be_comes_before_full(self):
        self.assertEqual(firsts(*FIVE, fact(4, 0, 0), fact(0, 20, 0), fact(0, 0, 20)), [1, 2, 3, 4, 5, -1, -1, -1])

    def test_a_refusal_leaves_all_as_it_was(self):
        self.assertEqual(
            firsts(fact(4, 0, 0), fact(0, 0, 0), fact(0, 20, 0), fact(0, 0, 0), fact(0, 0, 20), fact(0, 0, 1),
                   gone(4, 0, 0), gone(0, 20, 0), gone(0, 0, 20), rule([0, 0, 0], [0, 0, 0])),
            [-1, 1, -1, -4, -1, 2, -2, -2, -2, 0])

    def test_a_sixth_is_not_given(self):
        self.assertEqual(firsts(*FIVE, fact(3, 7, 7), gone(3, 7, 7), gone(0, 0, 19), fact(3, 7, 7)),
                         [1, 2, 3, 4, 5, -7, -2, 4, 5])

    def test_given_twice_is_gone_at_once(self):
        self.assertEqual(firsts(fact(1, 1, 1), fact(1, 1, 1), gone(1, 1, 1), gone(1, 1, 1)), [1, -4, 0, -2])


if __name__ == "__main__":
    unittest.main()
