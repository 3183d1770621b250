"""proves_not answers 0 where facts prove that it isn't sure, else what's wrong first; -1 where they aren't facts."""

import unittest

from believed.house import answers
from tests.spelling import LARGEST, asked, begins, call, claim, fact, gone, joined, last, own, proves_not, rule, sure

NEVER = claim([3, 0, 1])
COPY = rule([0, 0, 1], [1, 0, 1])


class Proved(unittest.TestCase):

    def test_no_facts(self):
        self.assertEqual(last(NEVER, proves_not()), [0])

    def test_no_facts_with_rules(self):
        self.assertEqual(last(COPY, NEVER, proves_not()), [0])

    def test_the_given_facts(self):
        self.assertEqual(last(fact(0, 1, 2), NEVER, proves_not([0, 1, 2])), [0])

    def test_more_facts(self):
        self.assertEqual(last(fact(0, 1, 2), NEVER, proves_not([0, 1, 2], [2, 5, 6], [0, 100, 99])), [0])

    def test_rules_are_kept(self):
        self.assertEqual(last(fact(0, 1, 2), COPY, NEVER, proves_not([0, 1, 2], [1, 1, 2])), [0])

    def test_out_of_order(self):
        given = [fact(0, 1, 2), fact(0, 3, 4), COPY, NEVER]
        self.assertEqual(last(*given, proves_not([1, 3, 4], [0, 3, 4], [1, 1, 2], [0, 1, 2])), [0])

    def test_told_twice(self):
        self.assertEqual(last(fact(0, 1, 2), NEVER, proves_not([0, 1, 2], [0, 1, 2], [2, 5, 5], [0, 1, 2])), [0])

    def test_known_and_unknown_values_of_every_size(self):
        for value in (0, 19, 20, 99, 100, LARGEST):
            self.assertEqual(last(fact(0, 1, 2), rule([0, 0, 1], [1, 1, 2]), NEVER,
                                  proves_not([0, 1, 2], [1, 2, value], [2, value, value])), [0], value)

    def test_rules_without_end_may_be_kept(self):
        self.assertEqual(last(fact(0, 1, 2), rule([0, 0, 1], [0, 1, 2]), claim([0, 0, 0], [0, 1]),
                              proves_not([0, 1, 2], [0, 2, 2])), [0])

    def test_values_settled_otherwise(self):
        self.assertEqual(last(fact(0, 1, 2), claim([0, 0, 1], [0, 2]), proves_not([0, 1, 2])), [0])

    def test_as_many_facts_as_a_list_may_have(self):
        self.assertEqual(last(NEVER, proves_not(*[[0, 0, k] for k in range(13)])), [0])

    def test_tables_0_to_3(self):
        self.assertEqual(last(claim([2, 0, 0]), proves_not([0, 1, 2], [1, 1, 2], [2, 1, 2], [3, 1, 2])), [0])


class FactIsMissing(unittest.TestCase):

    def test_the_first_given_one(self):
        given = [fact(2, 0, 0), fact(0, 9, 1), fact(0, 2, 8), NEVER]
        self.assertEqual(last(*given, proves_not()), [1, 0, 2, 8])
        self.assertEqual(last(*given, proves_not([0, 2, 8])), [1, 0, 9, 1])
        self.assertEqual(last(*given, proves_not([0, 9, 1], [0, 2, 8])), [1, 2, 0, 0])
        self.assertEqual(last(*given, proves_not([2, 0, 0], [0, 9, 1])), [1, 0, 2, 8])
        self.assertEqual(last(*given, proves_not([2, 0, 0], [0, 9, 1], [0, 2, 8])), [0])

    def test_not_quite_the_given_one(self):
        for other in ([1, 1, 2], [0, 2, 1], [0, 1, 1], [0, 2, 2], [0, 1, 102]):
            self.assertEqual(last(fact(0, 1, 2), NEVER, proves_not(other)), [1, 0, 1, 2], other)

    def test_what_is_gone_is_not_missed(self):
        self.assertEqual(last(fact(0, 1, 2), fact(0, 3, 4), gone(0, 1, 2), NEVER, proves_not([0, 3, 4])), [0])
        self.assertEqual(last(fact(0, 1, 2), begins(), NEVER, proves_not()), [0])

    def test_before_rules_and_claim(self):
        given = [fact(0, 1, 2), COPY, claim([0, 0, 1])]
        self.assertEqual(last(*given, proves_not([0, 3, 4])), [1, 0, 1, 2])


class RuleIsNotKept(unittest.TestCase):

    def test_the_rule_and_the_values(self):
        self.assertEqual(last(fact(0, 1, 2), COPY, NEVER, proves_not([0, 1, 2])), [2, 0, 1, 2])

    def test_the_first_rule(self):
        three = [rule([0, 0, 1], [1, 0, 1]), rule([0, 0, 1], [2, 0, 1]), rule([1, 0, 1], [2, 1, 0]), NEVER]
        self.assertEqual(last(*three, proves_not([0, 1, 2])), [2, 0, 1, 2])
        self.assertEqual(last(*three, proves_not([0, 1, 2], [1, 1, 2])), [2, 1, 1, 2])
        self.assertEqual(last(*three, proves_not([0, 1, 2], [1, 1, 2], [2, 1, 2])), [2, 2, 1, 2])
        self.assertEqual(last(*three, proves_not([0, 1, 2], [1, 1, 2], [2, 1, 2], [2, 2, 1])), [0])

    def test_the_first_match(self):
        facts = [[0, 5, 1], [0, 1, 9], [0, 1, 10]]
        self.assertEqual(last(COPY, NEVER, proves_not(*facts)), [2, 0, 1, 9])
        self.assertEqual(last(COPY, NEVER, proves_not(*facts, [1, 1, 9])), [2, 0, 1, 10])
        self.assertEqual(last(COPY, NEVER, proves_not(*facts, [1, 1, 9], [1, 1, 10])), [2, 0, 5, 1])
        self.assertEqual(last(COPY, NEVER, proves_not(*facts, [1, 5, 1], [1, 1, 10])), [2, 0, 1, 9])

    def test_the_first_match_by_the_first_atoms_fact_then_by_the_seconds(self):
        two = rule([0, 0, 1, 1, 2, 3], [2, 1, 3])
        facts = [[0, 1, 9], [0, 2, 8], [1, 5, 7], [1, 6, 6]]
        self.assertEqual(last(two, NEVER, proves_not(*facts)), [2, 0, 1, 9, 5, 7])
        self.assertEqual(last(two, NEVER, proves_not(*facts, [2, 9, 7])), [2, 0, 1, 9, 6, 6])
        self.assertEqual(last(two, NEVER, proves_not(*facts, [2, 9, 7], [2, 9, 6])), [2, 0, 2, 8, 5, 7])

    def test_values_stand_as_the_bodys_places_first_come(self):
        self.assertEqual(last(rule([0, 4, 1, 1, 1, 0], [2, 0, 4]), NEVER, proves_not([0, 1, 2], [1, 2, 3])),
                         [2, 0, 1, 2, 3])

    def test_one_place_twice_is_one_value(self):
        self.assertEqual(last(rule([0, 3, 3], [1, 3, 3]), NEVER, proves_not([0, 1, 2], [0, 7, 7])), [2, 0, 7])

    def test_unknown_values(self):
        self.assertEqual(last(rule([0, 3, 1], [1, 1, 0]), NEVER, proves_not([0, LARGEST, 100])), [2, 0, LARGEST, 100])

    def test_any_values_in_open_places_do(self):
        some = rule([0, 0, 1], [1, 1, 2])
        self.assertEqual(last(some, NEVER, proves_not([0, 1, 2], [1, 2, 77])), [0])
        self.assertEqual(last(some, NEVER, proves_not([0, 1, 2], [1, 77, 2])), [2, 0, 1, 2])
        self.assertEqual(last(some, NEVER, proves_not([0, 1, 2], [0, 3, 4], [1, 2, 77])), [2, 0, 3, 4])

    def test_one_open_place_in_two_atoms_needs_one_value(self):
        some = rule([0, 0, 1], [1, 1, 2, 2, 2, 0])
        self.assertEqual(last(some, NEVER, proves_not([0, 1, 2], [1, 2, 77], [2, 78, 1])), [2, 0, 1, 2])
        self.assertEqual(last(some, NEVER, proves_not([0, 1, 2], [1, 2, 77], [1, 2, 78], [2, 78, 1])), [0])

    def test_an_open_place_twice_in_an_atom_needs_one_value(self):
        some = rule([0, 0, 1], [1, 2, 2])
        self.assertEqual(last(some, NEVER, proves_not([0, 1, 2], [1, 5, 6])), [2, 0, 1, 2])
        self.assertEqual(last(some, NEVER, proves_not([0, 1, 2], [1, 6, 6])), [0])

    def test_before_the_claim(self):
        self.assertEqual(last(COPY, claim([0, 0, 1]), proves_not([0, 1, 2])), [2, 0, 1, 2])


class ClaimIsSo(unittest.TestCase):

    def test_no_claim(self):
        self.assertEqual(last(proves_not()), [3])
        self.assertEqual(last(fact(0, 1, 2), COPY, proves_not([0, 1, 2], [1, 1, 2])), [3])

    def test_no_claim_where_something_is_wrong_before(self):
        self.assertEqual(last(fact(0, 1, 2), proves_not()), [1, 0, 1, 2])
        self.assertEqual(last(COPY, proves_not([0, 1, 2])), [2, 0, 1, 2])

    def test_the_first_match(self):
        self.assertEqual(last(claim([0, 0, 1]), proves_not([0, 5, 1], [0, 1, 10], [0, 1, 9])), [3, 1, 9])

    def test_the_first_match_with_the_values(self):
        facts = [[0, 5, 1], [0, 1, 10], [0, 1, 9], [0, 6, 1]]
        self.assertEqual(last(claim([0, 0, 1], [1, 1]), proves_not(*facts)), [3, 5, 1])
        self.assertEqual(last(claim([0, 0, 1], [0, 6]), proves_not(*facts)), [3, 6, 1])
        self.assertEqual(last(claim([0, 0, 1], [0, 6, 1, 10]), proves_not(*facts)), [0])

    def test_two_atoms(self):
        facts = [[0, 1, 9], [0, 2, 8], [1, 8, 7], [1, 8, 6]]
        self.assertEqual(last(claim([0, 4, 1, 1, 1, 0]), proves_not(*facts)), [3, 2, 8, 6])
        self.assertEqual(last(claim([0, 4, 1, 1, 1, 0], [0, 7]), proves_not(*facts)), [3, 2, 8, 7])
        self.assertEqual(last(claim([0, 4, 1, 1, 1, 0], [0, 9]), proves_not(*facts)), [0])

    def test_one_place_twice_is_one_value(self):
        self.assertEqual(last(claim([0, 4, 4]), proves_not([0, 1, 2], [0, 7, 7])), [3, 7])

    def test_unknown_values(self):
        self.assertEqual(last(claim([0, 0, 1], [0, 1]), proves_not([0, 1, LARGEST])), [3, 1, LARGEST])


class FactsAreRefused(unittest.TestCase):

    def test_a_number_left_over(self):
        for length in range(41):
            told = answers(joined([NEVER, call(7, [], [[0] * length])]))[2:]
            self.assertEqual(told, [1, 0 if length % 3 == 0 else -1], length)

    def test_no_such_table(self):
        for table in (4, 5, 100, LARGEST):
            for facts in ([[table, 0, 0]], [[table, 0, 0], [0, 1, 2]], [[0, 1, 2], [table, 0, 0]]):
                self.assertEqual(last(NEVER, proves_not(*facts)), [-1], facts)

    def test_before_what_is_wrong(self):
        given = [fact(0, 1, 2), COPY]
        for facts in ([[4, 0, 0]], [[0, 1, 2], [4, 0, 0]], [[0, 1]], [[0, 1, 2], [0]],
                      [[0, 1, 2], [1, 1, 2], [4, 0, 0]]):
            self.assertEqual(last(*given, proves_not(*facts)), [-1], facts)

    def test_all_is_as_it_was(self):
        given = [fact(0, 1, 2), COPY, claim([1, 0, 1])]
        behind = [own(), fact(0, 1, 2), gone(4, 0, 0), sure([1, 2], [0, 2, 1, 2]), COPY]
        self.assertEqual(asked(*given, proves_not([4, 0, 0]), proves_not([0]), *behind)[5:], asked(*given, *behind)[3:])


class NothingIsKept(unittest.TestCase):

    def test_facts_of_it_are_not_given(self):
        given = [fact(0, 1, 2), COPY, claim([1, 0, 1], [0, 5])]
        self.assertEqual(
            asked(*given, proves_not([0, 1, 2], [1, 1, 2], [2, 2, 2]), gone(1, 1, 2), gone(2, 2, 2), fact(2, 2, 2),
                  gone(2, 2, 2), own(), proves_not([0, 1, 2]), sure([1, 2]))[3:],
            [[0], [-2], [-2], [2], [1], [0, 2, 0, 1, 2, 1, 1, 2], [2, 0, 1, 2], [5, 0]])


if __name__ == "__main__":
    unittest.main()
