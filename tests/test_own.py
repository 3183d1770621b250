"""own answers the house's own proof that it's sure, or that it isn't; -6 where 10 steps don't do."""

import unittest

from tests.spelling import asked, begins, claim, fact, firsts, gone, last, own, proves_not, rule, sure

COPY_0_TO_1 = rule([0, 0, 1], [1, 0, 1])
COPY_1_TO_2 = rule([1, 0, 1], [2, 0, 1])
COPY_2_TO_3 = rule([2, 0, 1], [3, 0, 1])
FIVE = [fact(0, k, k + 1) for k in range(5)]
# Table 3 is no head's in most of these, so a claim of it isn't so.
NEVER = claim([3, 0, 1])


class SureByNoSteps(unittest.TestCase):

    def test_no_claim(self):
        self.assertEqual(last(own()), [1, 0])

    def test_no_claim_with_facts_and_rules(self):
        self.assertEqual(last(fact(0, 1, 2), COPY_0_TO_1, own()), [1, 0])

    def test_no_claim_where_10_steps_would_not_do(self):
        self.assertEqual(last(fact(0, 1, 2), rule([0, 0, 1], [0, 1, 2]), own()), [1, 0])

    def test_so_among_the_given_facts(self):
        self.assertEqual(last(fact(0, 1, 2), claim([0, 0, 1]), own()), [1, 0, 1, 2])

    def test_so_before_any_step_though_rules_are_not_kept(self):
        self.assertEqual(last(fact(0, 1, 2), COPY_0_TO_1, claim([0, 0, 1], [1, 2]), own()), [1, 0, 1, 2])

    def test_the_first_match(self):
        self.assertEqual(last(fact(0, 9, 1), fact(0, 2, 8), fact(0, 2, 7), claim([0, 0, 1]), own()), [1, 0, 2, 7])

    def test_the_first_match_with_the_values(self):
        given = [fact(0, 9, 1), fact(0, 2, 8), fact(0, 2, 7), fact(0, 3, 8)]
        self.assertEqual(last(*given, claim([0, 0, 1], [0, 9]), own()), [1, 0, 9, 1])
        self.assertEqual(last(*given, claim([0, 0, 1], [1, 8]), own()), [1, 0, 2, 8])
        self.assertEqual(last(*given, claim([0, 0, 1], [1, 8, 0, 3]), own()), [1, 0, 3, 8])

    def test_the_table_comes_from_the_atom(self):
        self.assertEqual(last(fact(0, 1, 2), fact(1, 3, 4), claim([1, 0, 1]), own()), [1, 0, 3, 4])

    def test_values_stand_as_places_first_come(self):
        self.assertEqual(last(fact(0, 1, 2), claim([0, 4, 3]), own()), [1, 0, 1, 2])
        self.assertEqual(last(fact(0, 1, 2), fact(1, 3, 1), claim([0, 4, 3, 1, 0, 4]), own()), [1, 0, 1, 2, 3])
        self.assertEqual(last(fact(0, 1, 2), claim([0, 4, 3], [3, 2, 4, 1]), own()), [1, 0, 1, 2])

    def test_one_place_twice_in_an_atom(self):
        self.assertEqual(last(fact(0, 1, 2), fact(0, 3, 3), claim([0, 2, 2]), own()), [1, 0, 3])

    def test_the_second_atom_may_match_the_same_fact(self):
        self.assertEqual(last(fact(0, 1, 2), claim([0, 0, 1, 0, 2, 3]), own()), [1, 0, 1, 2, 1, 2])

    def test_by_the_first_atoms_fact_then_by_the_seconds(self):
        given = [fact(0, 1, 5), fact(0, 2, 4), fact(1, 9, 0), fact(1, 8, 1)]
        two = [0, 0, 1, 1, 2, 3]
        self.assertEqual(last(*given, claim(two), own()), [1, 0, 1, 5, 8, 1])
        self.assertEqual(last(*given, claim(two, [3, 0]), own()), [1, 0, 1, 5, 9, 0])
        self.assertEqual(last(*given, claim([1, 2, 3, 0, 0, 1], [3, 0]), own()), [1, 0, 9, 0, 1, 5])

    def test_the_first_atoms_first_fact_need_not_have_a_match(self):
        self.assertEqual(last(fact(0, 1, 5), fact(0, 2, 4), fact(1, 4, 0), claim([0, 0, 1, 1, 1, 2]), own()),
                         [1, 0, 2, 4, 0])


class SureBySteps(unittest.TestCase):

    def test_one_step(self):
        self.assertEqual(last(fact(0, 1, 2), COPY_0_TO_1, claim([1, 0, 1]), own()),
                         [1, 1, 0, 2, 1, 2, 0, 1, 2])

    def test_one_step_with_an_unknown(self):
        self.assertEqual(last(fact(0, 1, 2), rule([0, 0, 1], [1, 1, 2]), claim([1, 0, 1], [0, 2]), own()),
                         [1, 1, 0, 2, 1, 2, 1, 100, 2, 100])

    def test_several_steps(self):
        self.assertEqual(last(fact(0, 1, 2), COPY_0_TO_1, COPY_1_TO_2, COPY_2_TO_3, claim([3, 4, 0]), own()),
                         [1, 3, 0, 2, 1, 2, 0, 1, 2, 1, 2, 0, 2, 2, 1, 2, 0, 1, 2])

    def test_steps_for_other_facts_count_too(self):
        self.assertEqual(last(fact(0, 7, 8), fact(0, 1, 2), COPY_0_TO_1, claim([1, 0, 1], [0, 7]), own()),
                         [1, 2, 0, 2, 1, 2, 0, 0, 2, 7, 8, 0, 7, 8])

    def test_just_10_steps(self):
        told = last(*FIVE, COPY_0_TO_1, COPY_1_TO_2, claim([2, 0, 1], [0, 4]), own())
        first = [number for k in range(5) for number in (0, 2, k, k + 1, 0)]
        second = [number for k in range(5) for number in (1, 2, k, k + 1, 0)]
        self.assertEqual(told, [1, 10] + first + second + [4, 5])

    def test_just_9_steps(self):
        told = last(*FIVE, COPY_0_TO_1, COPY_1_TO_2, claim([2, 0, 1], [0, 3]), own())
        self.assertEqual((told[:2], len(told)), ([1, 9], 2 + 9 * 5 + 2))

    def test_a_kept_rule_makes_no_step(self):
        self.assertEqual(last(fact(0, 1, 2), fact(1, 1, 2), COPY_0_TO_1, COPY_1_TO_2, claim([2, 0, 1]), own()),
                         [1, 1, 1, 2, 1, 2, 0, 1, 2])

    def test_the_first_rule_first_and_again_when_it_is_no_longer_kept(self):
        # Rule 1 makes a fact of table 0, so rule 0 comes again before rule 1 does.
        self.assertEqual(
            last(fact(2, 1, 2), fact(2, 3, 4), COPY_0_TO_1, rule([2, 0, 1], [0, 1, 0]), claim([1, 0, 1], [0, 4]),
                 own()),
            [1, 4, 1, 2, 1, 2, 0, 0, 2, 2, 1, 0, 1, 2, 3, 4, 0, 0, 2, 4, 3, 0, 4, 3])

    def test_the_claim_is_asked_for_between_the_steps(self):
        # The first step makes it so; no rule but the first is asked then.
        self.assertEqual(last(*FIVE, COPY_0_TO_1, COPY_1_TO_2, COPY_2_TO_3, claim([1, 0, 1]), own())[:2], [1, 1])


class OpenPlaces(unittest.TestCase):

    def step(self, head, body=(0, 0, 0), given=(0, 7, 7)):
        """The first step that the rule makes, as it's told."""
        told = last(fact(*given), rule(list(body), head), claim([head[0], 0, 1]), own())
        self.assertEqual(told[:2], [1, 1])
        return told[2:]

    def test_none(self):
        self.assertEqual(self.step([1, 0, 0]), [0, 1, 7, 0, 7, 7])

    def test_one(self):
        self.assertEqual(self.step([1, 0, 3]), [0, 1, 7, 1, 100, 7, 100])
        self.assertEqual(self.step([1, 3, 0]), [0, 1, 7, 1, 100, 100, 7])

    def test_the_same_twice_in_an_atom(self):
        self.assertEqual(self.step([1, 3, 3]), [0, 1, 7, 1, 100, 100, 100])

    def test_the_same_in_both_atoms(self):
        self.assertEqual(last(fact(0, 7, 7), rule([0, 0, 0], [1, 3, 0, 2, 0, 3]), claim([1, 0, 1, 2, 1, 0]), own()),
                         [1, 1, 0, 1, 7, 1, 100, 100, 7])

    def test_several_in_the_order_in_which_they_first_come(self):
        self.assertEqual(last(fact(0, 7, 7), rule([0, 0, 0], [1, 4, 3, 2, 3, 1]), NEVER, own()),
                         [0, 3, 0, 7, 7, 1, 100, 101, 2, 101, 102])

    def test_as_many_as_can_be(self):
        self.assertEqual(last(fact(0, 7, 7), rule([0, 0, 0], [1, 4, 3, 2, 2, 1]), claim([2, 0, 1]), own()),
                         [1, 1, 0, 1, 7, 4, 100, 101, 102, 103, 102, 103])

    def test_unknowns_go_on_from_step_to_step(self):
        self.assertEqual(
            last(fact(0, 1, 2), fact(0, 3, 4), rule([0, 0, 1], [1, 2, 3]), rule([0, 0, 1], [2, 0, 4]),
                 claim([2, 0, 1], [0, 3]), own()),
            # One step of rule 0 does for both facts: its head has none of its body's places.
            [1, 3, 0, 2, 1, 2, 2, 100, 101, 1, 2, 1, 2, 1, 102, 1, 2, 3, 4, 1, 103, 3, 103])

    def test_steps_with_none_use_no_unknown(self):
        self.assertEqual(
            last(fact(0, 1, 2), COPY_0_TO_1, rule([1, 0, 1], [2, 1, 4]), NEVER, own()),
            [0, 3, 0, 1, 2, 1, 1, 2, 2, 2, 100])

    def test_unknowns_stand_in_bodies_of_later_steps(self):
        self.assertEqual(
            last(fact(0, 1, 2), rule([0, 0, 1], [1, 1, 2]), rule([1, 0, 1], [2, 1, 2]), claim([2, 3, 4]), own()),
            [1, 2, 0, 2, 1, 2, 1, 100, 1, 2, 2, 100, 1, 101, 100, 101])

    def test_each_time_from_100(self):
        made = [fact(0, 1, 2), rule([0, 0, 1], [1, 1, 2]), claim([1, 0, 1])]
        told = [1, 1, 0, 2, 1, 2, 1, 100, 2, 100]
        self.assertEqual(asked(*made, own(), own(), begins(), *made, own()),
                         [[1], [0], [0], told, told, [0], [1], [0], [0], told])


class KeptOrNot(unittest.TestCase):

    def test_any_values_in_open_places_do(self):
        self.assertEqual(last(fact(0, 1, 2), fact(1, 2, 9), rule([0, 0, 1], [1, 1, 2]), NEVER, own()),
                         [0, 2, 0, 1, 2, 1, 2, 9])

    def test_one_open_place_in_two_atoms_needs_one_value(self):
        head = [1, 1, 2, 2, 2, 1]
        self.assertEqual(
            last(fact(0, 1, 2), fact(1, 2, 9), fact(2, 8, 2), rule([0, 0, 1], head), NEVER, own()),
            [0, 5, 0, 1, 2, 1, 2, 9, 1, 2, 100, 2, 8, 2, 2, 100, 2])
        self.assertEqual(
            last(fact(0, 1, 2), fact(1, 2, 9), fact(1, 2, 8), fact(2, 9, 2), rule([0, 0, 1], head), NEVER, own()),
            [0, 4, 0, 1, 2, 1, 2, 8, 1, 2, 9, 2, 9, 2])

    def test_an_open_place_twice_in_an_atom_needs_one_value(self):
        self.assertEqual(last(fact(0, 1, 2), fact(1, 5, 6), rule([0, 0, 1], [1, 3, 3]), NEVER, own()),
                         [0, 3, 0, 1, 2, 1, 5, 6, 1, 100, 100])
        self.assertEqual(last(fact(0, 1, 2), fact(1, 5, 5), rule([0, 0, 1], [1, 3, 3]), NEVER, own()),
                         [0, 2, 0, 1, 2, 1, 5, 5])

    def test_both_atoms_of_the_head_are_needed(self):
        head = [1, 0, 1, 2, 1, 0]
        whole = [0, 3, 0, 1, 2, 1, 1, 2, 2, 2, 1]
        for given in ([], [fact(1, 1, 2)], [fact(2, 2, 1)]):
            self.assertEqual(last(fact(0, 1, 2), *given, rule([0, 0, 1], head), NEVER, own()), whole)

    def test_a_fact_that_is_there_is_not_put_twice(self):
        told = last(fact(0, 1, 2), rule([0, 0, 1], [1, 0, 1, 1, 0, 1]), NEVER, own())
        self.assertEqual(told, [0, 2, 0, 1, 2, 1, 1, 2])

    def test_a_body_without_a_match_is_kept(self):
        self.assertEqual(last(fact(0, 1, 2), rule([0, 0, 0], [1, 0, 0]), rule([1, 0, 1], [2, 0, 1]), NEVER, own()),
                         [0, 1, 0, 1, 2])


class MatchesInOrder(unittest.TestCase):

    def first_values(self, given, body):
        """The values of the first step by a rule with this body."""
        told = last(*given, rule(body, [3, body[1], body[1]]), claim([3, 0, 1]), own())
        return told[4:4 + told[3]]

    def test_facts_not_as_they_were_given(self):
        self.assertEqual(self.first_values([fact(0, 9, 1), fact(0, 2, 8), fact(0, 2, 7)], [0, 0, 1]), [2, 7])

    def test_places_in_another_order_than_the_values(self):
        given = [fact(0, 1, 9), fact(0, 2, 3)]
        self.assertEqual(self.first_values(given, [0, 1, 0]), [1, 9])
        self.assertEqual(self.first_values(given, [0, 4, 2]), [1, 9])

    def test_the_second_atom_the_other_way_round(self):
        # By the fact that the first atom matches: 0 1 5 before 0 2 4, though the second's facts stand otherwise.
        given = [fact(0, 1, 5), fact(0, 2, 4), fact(1, 4, 2), fact(1, 5, 1)]
        self.assertEqual(self.first_values(given, [0, 0, 1, 1, 1, 0]), [1, 5])
        self.assertEqual(self.first_values(given, [1, 1, 0, 0, 0, 1]), [4, 2])

    def test_one_place_twice_in_an_atom(self):
        self.assertEqual(self.first_values([fact(0, 1, 2), fact(0, 2, 2), fact(0, 3, 3)], [0, 4, 4]), [2])

    def test_one_place_twice_in_the_second_atom(self):
        given = [fact(0, 1, 2), fact(0, 3, 4), fact(1, 3, 4), fact(1, 4, 4)]
        self.assertEqual(self.first_values(given, [0, 0, 1, 1, 1, 1]), [3, 4])

    def test_two_atoms_of_a_body_in_one_table(self):
        self.assertEqual(
            last(fact(0, 1, 2), fact(0, 2, 3), fact(0, 3, 4), rule([0, 0, 1, 0, 1, 2], [0, 0, 2]),
                 claim([0, 0, 1], [0, 1, 1, 4]), own()),
            [1, 2, 0, 3, 1, 2, 3, 0, 0, 3, 1, 3, 4, 0, 1, 4])

    def test_two_atoms_of_a_body_by_one_fact(self):
        self.assertEqual(self.first_values([fact(0, 1, 2)], [0, 0, 1, 0, 2, 3]), [1, 2, 1, 2])

    def test_by_the_first_atoms_fact_then_by_the_seconds(self):
        # All pairs are matches; the head asks for the two first values of each.
        steps = last(fact(0, 1, 9), fact(0, 2, 8), rule([0, 0, 1, 0, 2, 3], [1, 0, 2]), claim([1, 0, 0], [0, 2]), own())
        self.assertEqual(steps, [1, 4, 0, 4, 1, 9, 1, 9, 0, 0, 4, 1, 9, 2, 8, 0, 0, 4, 2, 8, 1, 9, 0, 0, 4, 2, 8, 2, 8,
                                 0, 2])

    def test_values_of_a_body_of_two_atoms_stand_as_places_first_come(self):
        self.assertEqual(self.first_values([fact(0, 1, 2), fact(1, 3, 1)], [0, 4, 1, 1, 0, 4]), [1, 2, 3])

    def test_facts_with_unknowns_stand_behind_those_with_known_values(self):
        self.assertEqual(
            last(fact(0, 19, 0), rule([0, 0, 1], [1, 2, 0, 1, 1, 2]), NEVER, own()),
            [0, 3, 0, 19, 0, 1, 0, 100, 1, 100, 19])


class NotSure(unittest.TestCase):

    def test_no_facts(self):
        self.assertEqual(last(claim([0, 0, 1]), own()), [0, 0])

    def test_no_facts_with_rules(self):
        self.assertEqual(last(COPY_0_TO_1, rule([1, 0, 1], [0, 0, 1]), claim([0, 0, 1], [0, 5]), own()), [0, 0])

    def test_the_given_facts_where_no_rule_asks_for_more(self):
        self.assertEqual(last(fact(3, 0, 1), fact(0, 9, 2), fact(0, 9, 1), claim([1, 0, 1]), own()),
                         [0, 3, 0, 9, 1, 0, 9, 2, 3, 0, 1])

    def test_the_value_is_another(self):
        self.assertEqual(last(fact(0, 1, 2), claim([0, 0, 1], [1, 1]), own()), [0, 1, 0, 1, 2])

    def test_an_unknown_is_no_known_value(self):
        self.assertEqual(last(fact(0, 1, 2), rule([0, 0, 1], [1, 1, 2]), claim([1, 0, 1], [1, 2]), own()),
                         [0, 2, 0, 1, 2, 1, 2, 100])

    def test_an_unknown_is_no_other_unknown(self):
        self.assertEqual(last(fact(0, 1, 2), rule([0, 0, 1], [1, 2, 3]), claim([1, 0, 0]), own()),
                         [0, 2, 0, 1, 2, 1, 100, 101])

    def test_given_facts_and_made_ones_in_one_order(self):
        self.assertEqual(last(fact(1, 1, 2), fact(3, 5, 5), rule([1, 0, 1], [0, 1, 0]), claim([2, 0, 1]), own()),
                         [0, 3, 0, 2, 1, 1, 1, 2, 3, 5, 5])

    def test_all_rules_are_kept_just_behind_10_steps(self):
        told = last(*FIVE, COPY_0_TO_1, COPY_1_TO_2, NEVER, own())
        self.assertEqual(told, [0, 15] + [number for table in range(3) for k in range(5)
                                          for number in (table, k, k + 1)])


class NoneIsFound(unittest.TestCase):

    def test_11_steps_would_do(self):
        self.assertEqual(last(*FIVE, COPY_0_TO_1, COPY_1_TO_2, COPY_2_TO_3, claim([3, 0, 1]), own()), [-6])

    def test_no_number_of_steps_would_do(self):
        self.assertEqual(last(fact(0, 1, 2), rule([0, 0, 1], [0, 1, 2]), claim([0, 0, 0]), own()), [-6])

    def test_a_rule_behind_a_rule_that_is_never_kept_has_no_turn(self):
        given = [fact(0, 1, 2), claim([1, 0, 1])]
        self.assertEqual(last(*given, rule([0, 0, 1], [0, 1, 2]), COPY_0_TO_1, own()), [-6])
        self.assertEqual(last(*given, COPY_0_TO_1, rule([0, 0, 1], [0, 1, 2]), own()), [1, 1, 0, 2, 1, 2, 0, 1, 2])

    def test_all_is_as_it_was(self):
        given = [fact(0, 1, 2), rule([0, 0, 1], [0, 1, 2]), claim([0, 0, 0])]
        self.assertEqual(firsts(*given, own(), own(), fact(0, 1, 2), fact(0, 2, 3), gone(0, 2, 3), COPY_0_TO_1, own()),
                         [1, 0, 0, -6, -6, -4, 2, 1, 1, -6])
        self.assertEqual(last(*given, own(), sure([100])), [5, 0])
        self.assertEqual(last(*given, own(), proves_not([0, 1, 2])), [2, 0, 1, 2])
        self.assertEqual(last(*given, own(), proves_not([0, 1, 2], [0, 2, 2])), [3, 2])
        self.assertEqual(last(*given, own(), begins(), own()), [1, 0])


class OwnChangesNothing(unittest.TestCase):

    MADE = [fact(0, 1, 2), COPY_0_TO_1, rule([1, 0, 1], [2, 1, 2])]

    def test_again_the_same(self):
        for one in (claim([2, 0, 1]), NEVER):
            told = asked(*self.MADE, one, *[own()] * 6)[4:]
            self.assertEqual(told, [told[0]] * 6)
            self.assertGreater(len(told[0]), 2)

    def test_what_comes_behind_it_is_as_without_it(self):
        behind = [fact(1, 1, 2), fact(2, 2, 3), gone(1, 1, 2), gone(2, 2, 3), gone(1, 1, 2), gone(0, 1, 2),
                  fact(0, 1, 2), sure([2, 100], [0, 2, 1, 2], [1, 2, 1, 2, 100]), sure([2, 100], [1, 2, 1, 2, 100]),
                  proves_not([0, 1, 2]), proves_not([0, 1, 2], [1, 1, 2], [2, 2, 9]), COPY_2_TO_3, COPY_2_TO_3,
                  claim([0, 0, 1]), sure([1, 2])]
        for one in (claim([2, 0, 1]), NEVER):
            for each in range(len(behind)):
                calls = behind[each:]
                self.assertEqual(asked(*self.MADE, one, own(), *calls)[5:], asked(*self.MADE, one, *calls)[4:])

    def test_a_step_that_was_made_is_no_fact(self):
        self.assertEqual(asked(*self.MADE, NEVER, own(), gone(1, 1, 2), fact(1, 1, 2))[5:], [[-2], [2]])


if __name__ == "__main__":
    unittest.main()
