"""claim answers 0, and that's the claim; -1 where it isn't so formed, and the one before it stays."""

import unittest

from tests.spelling import LARGEST, begins, claim, fact, firsts, gone, last, own, proves_not, rule, sure

ATOM = [0, 0, 1]
TWO = [0, 0, 1, 3, 1, 2]


class ClaimIsTaken(unittest.TestCase):

    def test_one_and_two_atoms(self):
        self.assertEqual(firsts(claim(ATOM), claim(TWO)), [0, 0])

    def test_every_table_and_place(self):
        for table in range(4):
            for first in range(5):
                for second in range(5):
                    self.assertEqual(firsts(claim([table, first, second], [first, 19, second, 19])), [0])

    def test_some_or_all_places_are_settled(self):
        for settled in ([], [0, 5], [1, 5], [1, 5, 0, 6], [2, 0, 0, 0, 1, 0]):
            self.assertEqual(firsts(claim(TWO, settled)), [0], settled)

    def test_values_0_and_19(self):
        self.assertEqual(firsts(claim(ATOM, [0, 0, 1, 19])), [0])

    def test_a_place_of_the_second_atom(self):
        self.assertEqual(firsts(claim(TWO, [2, 7])), [0])

    def test_the_same_place_twice(self):
        self.assertEqual(firsts(claim(ATOM, [0, 5, 0, 5])), [0])
        self.assertEqual(firsts(claim(ATOM, [0, 5, 0, 6])), [0])

    def test_as_many_as_a_list_may_have(self):
        self.assertEqual(firsts(claim(ATOM, [0, 5] * 20)), [0])

    def test_the_same_place_twice_with_one_value_is_as_once(self):
        for calls in ([own()], [sure([5, 6])], [proves_not([0, 5, 6])]):
            self.assertEqual(last(fact(0, 5, 6), claim(ATOM, [0, 5, 0, 5]), *calls),
                             last(fact(0, 5, 6), claim(ATOM, [0, 5]), *calls))

    def test_the_same_place_twice_with_two_values_is_never_so(self):
        given = [fact(0, 5, 6), fact(0, 6, 5), claim(ATOM, [0, 5, 0, 6])]
        self.assertEqual(last(*given, own()), [0, 2, 0, 5, 6, 0, 6, 5])
        self.assertEqual(last(*given, sure([5, 6])), [6, 1])
        self.assertEqual(last(*given, sure([6, 5])), [6, 0])
        self.assertEqual(last(*given, proves_not([0, 5, 6], [0, 6, 5])), [0])

    def test_atoms_settled_places_and_values_are_what_is_claimed(self):
        given = [fact(0, 5, 6), fact(3, 6, 7), fact(3, 6, 8), claim(TWO, [2, 8])]
        self.assertEqual(last(*given, own()), [1, 0, 5, 6, 8])
        self.assertEqual(last(*given, sure([5, 6, 7])), [6, 0])
        self.assertEqual(last(*given, sure([5, 6, 8])), [0])

    def test_the_later_claim_holds(self):
        given = [fact(0, 5, 6), fact(1, 7, 8), claim(ATOM, [0, 5]), claim([1, 3, 2], [2, 8])]
        self.assertEqual(last(*given, own()), [1, 0, 7, 8])
        self.assertEqual(last(*given, sure([5, 6])), [5, 0])

    def test_a_later_claim_with_no_values_has_none_of_the_earlier(self):
        self.assertEqual(last(fact(0, 5, 6), claim(ATOM, [0, 7]), claim(ATOM), own()), [1, 0, 5, 6])

    def test_rules_and_facts_stay(self):
        self.assertEqual(firsts(rule(ATOM, ATOM), fact(0, 1, 2), claim(ATOM), rule(ATOM, ATOM), fact(0, 1, 2),
                                gone(0, 1, 2)), [0, 1, 0, 1, -4, 0])

    def test_facts_and_rules_behind_it_leave_it(self):
        self.assertEqual(last(claim(ATOM), fact(0, 1, 2), rule(ATOM, TWO), own()), [1, 0, 1, 2])


class ClaimIsNotFormed(unittest.TestCase):

    def refuse(self, atoms, settled=()):
        self.assertEqual(firsts(claim(atoms, settled)), [-1], (atoms, settled))

    def test_no_atoms(self):
        self.refuse([])
        self.refuse([], [0, 5])

    def test_three_atoms_and_more(self):
        for count in range(3, 14):
            self.refuse(ATOM * count)

    def test_not_whole_atoms(self):
        for length in range(0, 41):
            if length not in (3, 6):
                self.refuse([0] * length)

    def test_a_table_from_4_on(self):
        for table in (4, 5, 20, 100, LARGEST):
            self.refuse([table, 0, 1])
            self.refuse([table, 0, 1] + ATOM)
            self.refuse(ATOM + [table, 0, 1])

    def test_a_place_from_5_on(self):
        for place in (5, 6, 20, 100, LARGEST):
            for wrong in ([0, place, 0], [0, 0, place]):
                self.refuse(wrong)
                self.refuse(wrong, [place, 1])
                self.refuse(wrong + ATOM)
                self.refuse(ATOM + wrong)

    def test_a_number_left_over(self):
        for settled in ([0], [0, 5, 1], [0, 5, 1, 6, 0], [0] * 39):
            self.refuse(ATOM, settled)

    def test_a_place_that_the_atoms_have_not(self):
        for place in (2, 3, 4, 5, LARGEST):
            self.refuse(ATOM, [place, 5])
            self.refuse(ATOM, [0, 5, place, 5])
            self.refuse(ATOM, [place, 5, 0, 5])
        self.refuse(TWO, [3, 5])

    def test_a_table_is_no_place(self):
        self.refuse([3, 0, 1], [3, 5])

    def test_a_value_that_is_not_below_20(self):
        for value in (20, 21, 99, 100, LARGEST):
            self.refuse(ATOM, [0, value])
            self.refuse(ATOM, [0, 5, 1, value])
            self.refuse(ATOM, [1, value, 0, 5])
            self.refuse(ATOM, [0, 5, 0, value])


class RefusedClaimLeavesAllAsItWas(unittest.TestCase):

    WRONG = [claim([]), claim(ATOM * 3), claim([1, 0]), claim([4, 0, 1]), claim([1, 5, 1]), claim([1, 0, 1], [0]),
             claim([1, 0, 1], [2, 5]), claim([1, 0, 1], [0, 20]), claim([1, 0, 1], [0, 6, 1, 20])]

    def test_the_claim_before_it_stays(self):
        given = [fact(0, 5, 6), fact(0, 6, 7), fact(1, 6, 7), claim(ATOM, [0, 6])]
        for wrong in self.WRONG:
            self.assertEqual(last(*given, wrong, own()), [1, 0, 6, 7], wrong)
            self.assertEqual(last(*given, wrong, sure([5, 6])), [6, 0], wrong)
            self.assertEqual(last(*given, wrong, proves_not([0, 5, 6], [0, 6, 7], [1, 6, 7])), [3, 6, 7], wrong)

    def test_no_claim_stays_no_claim(self):
        for wrong in self.WRONG:
            self.assertEqual(last(wrong, own()), [1, 0], wrong)
            self.assertEqual(last(wrong, sure([])), [0], wrong)
            self.assertEqual(last(wrong, proves_not()), [3], wrong)

    def test_rules_and_facts_stay(self):
        for wrong in self.WRONG:
            self.assertEqual(firsts(rule(ATOM, ATOM), fact(0, 1, 2), wrong, rule(ATOM, ATOM), fact(0, 1, 2)),
                             [0, 1, -1, 1, -4], wrong)


class BeginsTakesTheClaimAway(unittest.TestCase):

    def test_there_is_no_claim_then(self):
        self.assertEqual(last(claim(ATOM, [0, 5]), own()), [0, 0])
        self.assertEqual(last(claim(ATOM, [0, 5]), begins(), own()), [1, 0])
        self.assertEqual(last(claim(ATOM, [0, 5]), begins(), sure([])), [0])
        self.assertEqual(last(claim(ATOM, [0, 5]), begins(), sure([5, 6])), [4])
        self.assertEqual(last(claim(ATOM, [0, 5]), begins(), proves_not()), [3])

    def test_no_values_stay_behind_it(self):
        self.assertEqual(last(claim(ATOM, [0, 5]), begins(), fact(0, 6, 6), claim(ATOM), own()), [1, 0, 6, 6])


if __name__ == "__main__":
    unittest.main()
