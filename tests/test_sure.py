"""sure answers 0 where it's proved, else what's wrong first; -1 where a step is cut short."""

import unittest

from tests.spelling import LARGEST, asked, claim, fact, firsts, gone, last, own, proves_not, rule, sure

# The house of most of these: 0(1, 2) is given, and what is 0(a, b) is 1(b, c) for some c.
GIVEN = fact(0, 1, 2)
RULE = rule([0, 0, 1], [1, 1, 2])
CLAIM = claim([1, 0, 1])
STEP = [0, 2, 1, 2, 100]


class Proved(unittest.TestCase):

    def test_no_claim_and_no_steps(self):
        self.assertEqual(last(sure([])), [0])

    def test_no_claim_and_a_step(self):
        self.assertEqual(last(GIVEN, RULE, sure([], STEP)), [0])

    def test_no_steps(self):
        self.assertEqual(last(GIVEN, claim([0, 0, 1], [0, 1]), sure([1, 2])), [0])

    def test_one_step(self):
        self.assertEqual(last(GIVEN, RULE, CLAIM, sure([2, 100], STEP)), [0])

    def test_a_step_with_no_unknown(self):
        self.assertEqual(last(GIVEN, rule([0, 0, 1], [1, 1, 0]), CLAIM, sure([2, 1], [0, 2, 1, 2])), [0])

    def test_a_step_by_what_an_earlier_step_put(self):
        made = [GIVEN, RULE, rule([1, 0, 1], [2, 1, 2]), claim([2, 0, 1])]
        self.assertEqual(last(*made, sure([100, 101], STEP, [1, 2, 2, 100, 101])), [0])

    def test_both_atoms_of_a_head_are_put(self):
        made = [GIVEN, rule([0, 0, 1], [1, 1, 2, 2, 2, 3]), claim([1, 0, 1, 2, 1, 2])]
        self.assertEqual(last(*made, sure([2, 100, 101], [0, 2, 1, 2, 100, 101])), [0])
        self.assertEqual(last(*made, sure([2, 101, 100], [0, 2, 1, 2, 101, 100])), [0])

    def test_unknowns_stand_as_open_places_first_come(self):
        made = [GIVEN, rule([0, 0, 1], [1, 4, 3, 2, 3, 2]), claim([1, 0, 1, 2, 1, 2])]
        self.assertEqual(last(*made, sure([300, 200, 100], [0, 2, 1, 2, 300, 200, 100])), [0])
        self.assertEqual(last(*made, sure([100, 200, 300], [0, 2, 1, 2, 300, 200, 100])), [5, 0])

    def test_values_stand_as_the_bodys_places_first_come(self):
        made = [GIVEN, fact(3, 2, 5), rule([0, 4, 1, 3, 1, 0], [1, 0, 4]), CLAIM]
        self.assertEqual(last(*made, sure([5, 1], [0, 3, 1, 2, 5])), [0])
        self.assertEqual(last(*made, sure([5, 1], [0, 3, 5, 2, 1])), [2, 0])

    def test_one_place_twice_is_one_value(self):
        made = [fact(0, 3, 3), rule([0, 2, 2], [1, 4, 4]), claim([1, 0, 0])]
        self.assertEqual(last(*made, sure([100], [0, 1, 3, 100])), [0])
        self.assertEqual(last(*made, sure([100], [0, 2, 3, 3, 100])), [1, 0])
        self.assertEqual(last(*made, sure([100, 100], [0, 1, 3, 100])), [4])

    def test_steps_need_not_be_needed(self):
        # The rule is kept, and was; a step by it is as good.
        self.assertEqual(last(GIVEN, RULE, CLAIM, fact(1, 2, 3), sure([2, 3], STEP, [0, 2, 1, 2, 101])), [0])

    def test_the_same_step_again_with_other_unknowns(self):
        self.assertEqual(last(GIVEN, RULE, CLAIM, sure([2, 101], STEP, [0, 2, 1, 2, 101])), [0])

    def test_the_same_step_again_that_has_none(self):
        step = [0, 2, 1, 2]
        self.assertEqual(last(GIVEN, rule([0, 0, 1], [1, 0, 1]), CLAIM, sure([1, 2], step, step, step)), [0])

    def test_12_steps(self):
        steps = [[0, 2, 1, 2, 100 + k] for k in range(12)]
        self.assertEqual(last(GIVEN, RULE, CLAIM, sure([2, 111], *steps)), [0])
        self.assertEqual(last(GIVEN, RULE, CLAIM, sure([2, 112], *steps)), [5, 0])

    def test_any_of_the_rules(self):
        made = [GIVEN, RULE, rule([0, 0, 1], [2, 0, 1]), rule([0, 0, 1], [3, 0, 1])]
        self.assertEqual(last(*made, claim([3, 0, 1, 2, 0, 1]), sure([1, 2], [2, 2, 1, 2], [1, 2, 1, 2])), [0])

    def test_settled_values(self):
        self.assertEqual(last(GIVEN, RULE, claim([1, 3, 4], [3, 2]), sure([2, 100], STEP)), [0])
        self.assertEqual(last(GIVEN, claim([0, 4, 3], [3, 2, 4, 1]), sure([1, 2])), [0])

    def test_nothing_is_kept_of_the_steps(self):
        made = [GIVEN, RULE, CLAIM]
        told = asked(*made, sure([2, 100], STEP), sure([2, 100]), sure([2, 100], STEP), own(), gone(1, 2, 3),
                     proves_not(), fact(0, 1, 2), fact(0, 5, 5), RULE)[3:]
        self.assertEqual(told, [[0], [5, 0], [0], [1, 1, 0, 2, 1, 2, 1, 100, 2, 100], [-2], [1, 0, 1, 2], [-4], [2],
                                [1]])


class StepDoesNotFit(unittest.TestCase):

    def wrong(self, step):
        self.assertEqual(last(GIVEN, RULE, CLAIM, sure([2, 100], step)), [1, 0], step)
        self.assertEqual(last(GIVEN, RULE, CLAIM, sure([2, 100], STEP, step)), [1, 1], step)

    def test_no_such_rule(self):
        for which in (1, 2, 3, 100, LARGEST):
            self.wrong([which, 2, 1, 2, 100])

    def test_no_rules(self):
        self.assertEqual(last(GIVEN, CLAIM, sure([2, 100], STEP)), [1, 0])

    def test_another_rule_that_is_there(self):
        made = [GIVEN, RULE, rule([0, 0, 1], [1, 1, 0]), CLAIM]
        self.assertEqual(last(*made, sure([2, 100], [1, 2, 1, 2, 100])), [1, 0])
        self.assertEqual(last(*made, sure([2, 1], [1, 2, 1, 2])), [0])
        self.assertEqual(last(*made, sure([2, 1], [2, 2, 1, 2])), [1, 0])

    def test_too_few_values(self):
        self.wrong([0, 0, 100])
        self.wrong([0, 1, 1, 100])

    def test_too_many_values(self):
        self.wrong([0, 3, 1, 2, 100])
        self.wrong([0, 3, 1, 2, 2, 100])

    def test_too_few_unknowns(self):
        self.wrong([0, 2, 1, 2])

    def test_too_many_unknowns(self):
        self.wrong([0, 2, 1, 2, 100, 101])
        self.wrong([0, 2, 1, 2] + list(range(100, 136)))

    def test_as_many_numbers_in_all_but_not_of_each(self):
        self.wrong([0, 1, 1, 2, 100])
        self.wrong([0, 3, 1, 2, 100])

    def test_unknowns_where_there_are_no_open_places(self):
        self.assertEqual(last(GIVEN, rule([0, 0, 1], [1, 1, 0]), CLAIM, sure([2, 1], [0, 2, 1, 2, 100])), [1, 0])


class StepIsNotMatched(unittest.TestCase):

    def test_another_value(self):
        for step in ([0, 2, 2, 1, 100], [0, 2, 1, 1, 100], [0, 2, 2, 2, 100], [0, 2, 1, LARGEST, 100]):
            self.assertEqual(last(GIVEN, RULE, CLAIM, sure([2, 100], step)), [2, 0], step)
            self.assertEqual(last(GIVEN, RULE, CLAIM, sure([2, 100], STEP, step[:4] + [101])), [2, 1], step)

    def test_another_table(self):
        self.assertEqual(last(fact(2, 1, 2), RULE, CLAIM, sure([2, 100], STEP)), [2, 0])

    def test_no_facts(self):
        self.assertEqual(last(RULE, CLAIM, sure([2, 100], STEP)), [2, 0])

    def test_either_atom(self):
        two = rule([0, 0, 1, 2, 1, 2], [1, 0, 2])
        step = [0, 3, 1, 2, 3]
        self.assertEqual(last(GIVEN, fact(2, 2, 3), two, CLAIM, sure([1, 3], step)), [0])
        self.assertEqual(last(GIVEN, two, CLAIM, sure([1, 3], step)), [2, 0])
        self.assertEqual(last(fact(2, 2, 3), two, CLAIM, sure([1, 3], step)), [2, 0])

    def test_what_a_later_step_puts_is_not_there_yet(self):
        made = [GIVEN, RULE, rule([1, 0, 1], [2, 1, 2]), claim([2, 0, 1])]
        self.assertEqual(last(*made, sure([100, 101], [1, 2, 2, 100, 101], STEP)), [2, 0])

    def test_what_is_gone(self):
        self.assertEqual(last(GIVEN, RULE, CLAIM, gone(0, 1, 2), sure([2, 100], STEP)), [2, 0])


class StepIsNotNew(unittest.TestCase):

    def with_unknown(self, unknown):
        return last(GIVEN, RULE, CLAIM, sure([2, unknown], [0, 2, 1, 2, unknown]))

    def test_known(self):
        for unknown in (0, 1, 2, 3, 19, 20, 98, 99):
            self.assertEqual(self.with_unknown(unknown), [3, 0], unknown)

    def test_unknown(self):
        for unknown in (100, 101, 4000, LARGEST):
            self.assertEqual(self.with_unknown(unknown), [0], unknown)

    def test_in_a_given_fact(self):
        # Given values are known, so it's told by this already.
        self.assertEqual(self.with_unknown(1), [3, 0])

    def test_in_a_fact_of_an_earlier_step(self):
        self.assertEqual(last(GIVEN, RULE, CLAIM, sure([2, 100], STEP, STEP)), [3, 1])
        self.assertEqual(
            last(GIVEN, RULE, CLAIM, sure([2, 100], STEP, [0, 2, 1, 2, 101], [0, 2, 1, 2, 100])), [3, 2])

    def test_as_the_first_value_of_an_earlier_steps_fact(self):
        made = [GIVEN, rule([0, 0, 1], [1, 2, 0]), CLAIM]
        self.assertEqual(last(*made, sure([100, 1], STEP, STEP)), [3, 1])
        self.assertEqual(last(*made, sure([100, 1], STEP, [0, 2, 1, 2, 101])), [0])

    def test_told_twice_in_the_step(self):
        made = [GIVEN, rule([0, 0, 1], [1, 2, 3]), CLAIM]
        self.assertEqual(last(*made, sure([100, 100], [0, 2, 1, 2, 100, 100])), [3, 0])
        self.assertEqual(last(*made, sure([101, 100], [0, 2, 1, 2, 101, 100])), [0])

    def test_the_last_of_several(self):
        made = [GIVEN, rule([0, 0, 1], [1, 2, 3, 2, 4, 0]), claim([2, 0, 1])]
        self.assertEqual(last(*made, sure([102, 1], [0, 2, 1, 2, 100, 101, 102])), [0])
        for unknowns in ([100, 101, 99], [100, 99, 102], [99, 101, 102], [100, 101, 100], [100, 101, 101],
                         [100, 100, 101]):
            self.assertEqual(last(*made, sure([102, 1], [0, 2, 1, 2] + unknowns)), [3, 0], unknowns)

    def test_the_last_of_several_in_a_fact(self):
        made = [GIVEN, rule([0, 0, 1], [1, 2, 3]), CLAIM]
        for unknowns in ([100, 102], [101, 102], [102, 100], [102, 101]):
            self.assertEqual(last(*made, sure([100, 101], [0, 2, 1, 2, 100, 101], [0, 2, 1, 2] + unknowns)), [3, 1])

    def test_a_value_of_the_body_that_is_an_unknown_is_in_a_fact(self):
        made = [GIVEN, rule([0, 0, 1], [0, 1, 2]), claim([0, 0, 1])]
        self.assertEqual(last(*made, sure([2, 100], STEP, [0, 2, 2, 100, 100])), [3, 1])
        self.assertEqual(last(*made, sure([100, 101], STEP, [0, 2, 2, 100, 101])), [0])


class WhatIsWrongFirst(unittest.TestCase):

    def test_of_one_step_1_before_2_before_3(self):
        made = [GIVEN, RULE, CLAIM]
        self.assertEqual(last(*made, sure([2, 100], [0, 2, 7, 7, 99, 99])), [1, 0])
        self.assertEqual(last(*made, sure([2, 100], [1, 2, 7, 7, 99])), [1, 0])
        self.assertEqual(last(*made, sure([2, 100], [0, 2, 7, 7, 99])), [2, 0])
        self.assertEqual(last(*made, sure([2, 100], [0, 2, 1, 2, 99])), [3, 0])

    def test_an_earlier_step_before_a_later(self):
        made = [GIVEN, RULE, CLAIM]
        wrong = {1: [1, 2, 1, 2, 100], 2: [0, 2, 7, 7, 100], 3: [0, 2, 1, 2, 99]}
        for first in wrong:
            for second in wrong:
                self.assertEqual(last(*made, sure([2, 100], wrong[first], wrong[second])), [first, 0])
                self.assertEqual(
                    last(*made, sure([2, 101], [0, 2, 1, 2, 101], wrong[first], wrong[second])), [first, 1])

    def test_which_step(self):
        for wrong in range(12):
            steps = [[0, 2, 1, 2, 100 + k] for k in range(12)]
            steps[wrong] = [0, 2, 1, 2, 99]
            self.assertEqual(last(GIVEN, RULE, CLAIM, sure([2, 100], *steps)), [3, wrong])

    def test_steps_before_the_claim(self):
        made = [GIVEN, RULE, claim([1, 0, 1], [0, 3])]
        for values in ([], [2], [2, 100], [3, 100], [1, 2, 3]):
            self.assertEqual(last(*made, sure(values, [0, 2, 1, 2, 99])), [3, 0])

    def test_4_before_5_before_6(self):
        made = [GIVEN, claim([0, 0, 1, 0, 1, 2], [0, 9])]
        self.assertEqual(last(*made, sure([8, 8])), [4])
        self.assertEqual(last(*made, sure([8, 8, 8])), [5, 0])
        self.assertEqual(last(*made, sure([1, 2, 3])), [5, 1])
        self.assertEqual(last(*made, fact(0, 2, 3), sure([1, 2, 3])), [6, 0])


class ClaimIsNotProved(unittest.TestCase):

    def test_not_a_value_for_each_place(self):
        made = [GIVEN, RULE, CLAIM]
        for values in ([], [2], [2, 100, 100], [2, 100, 0], [2] * 40):
            self.assertEqual(last(*made, sure(values, STEP)), [4], values)
            self.assertEqual(last(*made, sure(values)), [4], values)

    def test_values_where_there_is_no_claim(self):
        self.assertEqual(last(sure([0])), [4])
        self.assertEqual(last(GIVEN, RULE, sure([1, 2], STEP)), [4])

    def test_places_are_counted_once(self):
        made = [GIVEN, fact(0, 2, 1), claim([0, 0, 1, 0, 1, 0])]
        self.assertEqual(last(*made, sure([1, 2])), [0])
        self.assertEqual(last(*made, sure([1, 2, 2, 1])), [4])

    def test_which_atom_is_the_first_that_is_no_fact(self):
        made = [GIVEN, fact(3, 2, 3), claim([0, 0, 1, 3, 1, 2])]
        self.assertEqual(last(*made, sure([1, 2, 3])), [0])
        self.assertEqual(last(*made, sure([1, 2, 4])), [5, 1])
        self.assertEqual(last(*made, sure([0, 2, 3])), [5, 0])
        self.assertEqual(last(*made, sure([1, 3, 3])), [5, 0])
        self.assertEqual(last(*made, sure([1, 2, LARGEST])), [5, 1])

    def test_another_table(self):
        self.assertEqual(last(GIVEN, claim([1, 0, 1]), sure([1, 2])), [5, 0])

    def test_which_value_is_the_first_that_is_not_in_its_place(self):
        made = [GIVEN, fact(3, 2, 3)]
        two = [0, 0, 1, 3, 1, 2]
        self.assertEqual(last(*made, claim(two, [0, 1, 1, 2, 2, 3]), sure([1, 2, 3])), [0])
        self.assertEqual(last(*made, claim(two, [0, 5, 1, 2, 2, 3]), sure([1, 2, 3])), [6, 0])
        self.assertEqual(last(*made, claim(two, [0, 1, 1, 5, 2, 3]), sure([1, 2, 3])), [6, 1])
        self.assertEqual(last(*made, claim(two, [0, 1, 1, 2, 2, 5]), sure([1, 2, 3])), [6, 2])
        self.assertEqual(last(*made, claim(two, [0, 1, 1, 5, 2, 5]), sure([1, 2, 3])), [6, 1])

    def test_values_are_counted_as_claim_told_them(self):
        made = [GIVEN, fact(3, 2, 3)]
        two = [0, 0, 1, 3, 1, 2]
        self.assertEqual(last(*made, claim(two, [2, 3, 0, 5]), sure([1, 2, 3])), [6, 1])
        self.assertEqual(last(*made, claim(two, [2, 5, 0, 5]), sure([1, 2, 3])), [6, 0])
        self.assertEqual(last(*made, claim(two, [2, 3, 2, 3, 2, 4]), sure([1, 2, 3])), [6, 2])

    def test_an_unknown_is_not_the_value(self):
        self.assertEqual(last(GIVEN, RULE, claim([1, 0, 1], [1, 3]), sure([2, 100], STEP)), [6, 0])


class StepIsCutShort(unittest.TestCase):

    SHORT = [[], [0], [9], [0, 1], [0, 2, 1], [0, 3, 1, 2], [9, 1], [0, LARGEST, 1, 2, 100], [0, 39] + [1] * 38,
             [LARGEST, LARGEST]]

    def test_the_first_step(self):
        for short in self.SHORT:
            self.assertEqual(last(GIVEN, RULE, CLAIM, sure([2, 100], short)), [-1], short)
            self.assertEqual(last(GIVEN, RULE, CLAIM, sure([2, 100], short, STEP)), [-1], short)

    def test_a_later_step(self):
        for short in self.SHORT:
            self.assertEqual(last(GIVEN, RULE, CLAIM, sure([2, 100], STEP, short)), [-1], short)
            self.assertEqual(last(GIVEN, RULE, CLAIM, sure([2, 100], *[STEP] * 11, short)), [-1], short)

    def test_behind_a_step_that_is_wrong(self):
        for short in self.SHORT:
            for wrong in ([1, 2, 1, 2, 100], [0, 2, 1, 2], [0, 2, 7, 7, 100], [0, 2, 1, 2, 99]):
                self.assertEqual(last(GIVEN, RULE, CLAIM, sure([2, 100], wrong, short)), [-1], (wrong, short))

    def test_where_the_values_are_wrong_too(self):
        for short in self.SHORT:
            self.assertEqual(last(sure([1, 2, 3], short)), [-1], short)

    def test_as_many_values_as_told_are_enough(self):
        self.assertEqual(last(GIVEN, RULE, CLAIM, sure([2, 100], [0, 0])), [1, 0])
        self.assertEqual(last(GIVEN, RULE, CLAIM, sure([2, 100], [0, 2, 1, 2])), [1, 0])
        self.assertEqual(last(GIVEN, RULE, CLAIM, sure([2, 100], [0, 38] + [1] * 38)), [1, 0])

    def test_all_is_as_it_was(self):
        self.assertEqual(
            firsts(GIVEN, RULE, CLAIM, sure([2, 100], STEP, []), fact(0, 1, 2), gone(1, 2, 3), sure([2, 100], STEP),
                   RULE),
            [1, 0, 0, -1, -4, -2, 0, 1])


if __name__ == "__main__":
    unittest.main()
