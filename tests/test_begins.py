"""begins answers 0, and all is as at the beginning."""

import unittest

from tests.spelling import begins, fact, firsts, gone, rule

ATOM = [0, 0, 1]


class Begins(unittest.TestCase):

    def test_answers_0_alone(self):
        self.assertEqual(firsts(begins()), [0])

    def test_again_and_again(self):
        self.assertEqual(firsts(begins(), begins(), begins()), [0, 0, 0])

    def test_there_are_no_facts_then(self):
        self.assertEqual(
            firsts(fact(0, 1, 2), fact(1, 1, 2), begins(), gone(0, 1, 2), gone(1, 1, 2), fact(0, 1, 2)),
            [1, 2, 0, -2, -2, 1])

    def test_there_are_no_rules_then(self):
        self.assertEqual(
            firsts(rule(ATOM, ATOM), rule(ATOM, ATOM), begins(), rule(ATOM, ATOM)),
            [0, 1, 0, 0])

    def test_a_full_house_is_empty_then(self):
        full = [fact(0, k, 0) for k in range(5)] + [rule(ATOM, ATOM) for k in range(3)]
        told = [1, 2, 3, 4, 5, 0, 1, 2]
        self.assertEqual(firsts(*full, fact(1, 0, 0), rule(ATOM, ATOM), begins(), *full, fact(1, 0, 0),
                                rule(ATOM, ATOM)), told + [-7, -7, 0] + told + [-7, -7])

    def test_a_refused_call_ahead_of_it_is_nothing(self):
        self.assertEqual(firsts(fact(4, 0, 0), begins(), fact(3, 0, 0)), [-1, 0, 1])


if __name__ == "__main__":
    unittest.main()
