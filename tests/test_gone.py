"""gone answers how many facts are given then; -2 where there's no such fact."""

import unittest

from believed.house import House
from tests.spelling import LARGEST, begins, fact, firsts, gone, rule


class FactIsGone(unittest.TestCase):

    def test_how_many_are_given_then(self):
        self.assertEqual(firsts(fact(0, 1, 2), fact(1, 1, 2), fact(2, 1, 2), gone(1, 1, 2), gone(0, 1, 2),
                                gone(2, 1, 2)), [1, 2, 3, 2, 1, 0])

    def test_it_may_be_given_again(self):
        self.assertEqual(firsts(fact(3, 19, 19), gone(3, 19, 19), fact(3, 19, 19), fact(3, 19, 19)), [1, 0, 1, -4])

    def test_it_makes_room(self):
        five = [fact(0, 0, k) for k in range(5)]
        self.assertEqual(firsts(*five, fact(1, 0, 0), gone(0, 0, 2), fact(1, 0, 0), fact(0, 0, 2)),
                         [1, 2, 3, 4, 5, -7, 4, 5, -7])

    def test_that_one_alone_is_gone(self):
        house = House()
        for given in ((0, 1, 2), (0, 2, 1), (1, 1, 2), (0, 1, 1)):
            house.give_fact(*given)
        self.assertEqual(house.take_fact(0, 1, 2), 3)
        self.assertEqual(house.facts, [(0, 1, 1), (0, 2, 1), (1, 1, 2)])

    def test_rules_stay(self):
        atom = [0, 0, 0]
        self.assertEqual(firsts(rule(atom, atom), fact(0, 0, 0), gone(0, 0, 0), rule(atom, atom)), [0, 1, 0, 1])


class NoSuchFact(unittest.TestCase):

    def test_at_the_beginning(self):
        self.assertEqual(firsts(gone(0, 0, 0)), [-2])

    def test_another_table_or_value(self):
        self.assertEqual(firsts(fact(1, 2, 3), gone(0, 2, 3), gone(1, 3, 3), gone(1, 2, 2), gone(1, 3, 2)),
                         [1, -2, -2, -2, -2])

    def test_what_can_not_be_a_fact(self):
        for wrong in ((4, 0, 0), (0, 20, 0), (0, 0, 20), (LARGEST, LARGEST, LARGEST)):
            self.assertEqual(firsts(gone(*wrong)), [-2], wrong)
            self.assertEqual(firsts(fact(0, 0, 0), gone(*wrong)), [1, -2], wrong)

    def test_what_is_gone(self):
        self.assertEqual(firsts(fact(0, 0, 0), gone(0, 0, 0), gone(0, 0, 0)), [1, 0, -2])

    def test_behind_begins(self):
        self.assertEqual(firsts(fact(0, 0, 0), begins(), gone(0, 0, 0)), [1, 0, -2])

    def test_a_refusal_leaves_all_as_it_was(self):
        self.assertEqual(firsts(fact(0, 0, 0), gone(0, 0, 1), fact(0, 0, 0), gone(1, 0, 0), fact(0, 0, 1)),
                         [1, -2, -4, -2, 2])


if __name__ == "__main__":
    unittest.main()
