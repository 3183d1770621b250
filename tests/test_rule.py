"""rule answers which it is; -1 where it isn't so formed, -7 where there are 3."""

import unittest

from believed.house import House
from tests.spelling import LARGEST, begins, fact, firsts, rule

ATOM = [0, 0, 1]
TWO = [0, 0, 1, 3, 1, 2]


class RuleIsTaken(unittest.TestCase):

    def test_which_it_is_from_0(self):
        self.assertEqual(firsts(rule(ATOM, TWO), rule(TWO, ATOM), rule(TWO, TWO)), [0, 1, 2])

    def test_one_or_two_atoms_in_body_and_head(self):
        for body in (ATOM, TWO):
            for head in (ATOM, TWO):
                self.assertEqual(firsts(rule(body, head)), [0], (body, head))

    def test_the_same_rule_may_stand_again(self):
        self.assertEqual(firsts(rule(ATOM, ATOM), rule(ATOM, ATOM)), [0, 1])

    def test_every_table_and_place(self):
        for table in range(4):
            for first in range(5):
                for second in range(5):
                    atom = [table, first, second]
                    self.assertEqual(firsts(rule(atom, atom)), [0], atom)

    def test_head_may_have_open_places_or_none(self):
        self.assertEqual(firsts(rule([1, 0, 0], [1, 3, 4]), rule([1, 3, 4], [2, 3, 3])), [0, 1])

    def test_what_is_kept_is_body_and_head(self):
        house = House()
        house.give_rule(TWO, [2, 4, 0])
        self.assertEqual([(kept.body, kept.head) for kept in house.rules], [([(0, 0, 1), (3, 1, 2)], [(2, 4, 0)])])

    def test_facts_do_not_count(self):
        self.assertEqual(firsts(*[fact(0, k, 0) for k in range(5)], rule(ATOM, ATOM)), [1, 2, 3, 4, 5, 0])


class RuleIsNotFormed(unittest.TestCase):

    def refuse(self, wrong):
        self.assertEqual(firsts(rule(wrong, ATOM)), [-1], ("body", wrong))
        self.assertEqual(firsts(rule(ATOM, wrong)), [-1], ("head", wrong))
        self.assertEqual(firsts(rule(wrong, wrong)), [-1], ("both", wrong))

    def test_no_numbers(self):
        self.refuse([])

    def test_three_atoms_and_more(self):
        for count in range(3, 14):
            self.refuse(ATOM * count)

    def test_not_whole_atoms(self):
        for length in range(0, 41):
            if length not in (3, 6):
                self.refuse([0] * length)

    def test_a_table_from_4_on(self):
        for table in (4, 5, 20, 100, LARGEST):
            self.refuse([table, 0, 0])
            self.refuse([table, 0, 0] + ATOM)
            self.refuse(ATOM + [table, 0, 0])

    def test_a_place_from_5_on(self):
        for place in (5, 6, 20, 100, LARGEST):
            for wrong in ([0, place, 0], [0, 0, place]):
                self.refuse(wrong)
                self.refuse(wrong + ATOM)
                self.refuse(ATOM + wrong)

    def test_the_last_place_is_4_where_the_last_table_is_3(self):
        self.assertEqual(firsts(rule([3, 4, 4], [3, 4, 4]), rule([4, 3, 3], [3, 4, 4])), [0, -1])


class RulesAreFull(unittest.TestCase):

    def test_the_third_and_the_fourth(self):
        self.assertEqual(firsts(*[rule(ATOM, ATOM)] * 5), [0, 1, 2, -7, -7])

    def test_not_formed_comes_first(self):
        wrong = [rule([], ATOM), rule(ATOM, ATOM * 3), rule([4, 0, 0], ATOM), rule(ATOM, [0, 5, 0])]
        self.assertEqual(firsts(*[rule(ATOM, ATOM)] * 3, *wrong), [0, 1, 2, -1, -1, -1, -1])

    def test_a_refused_rule_leaves_all_as_it_was(self):
        self.assertEqual(
            firsts(rule(ATOM, []), rule(ATOM, ATOM), rule([0, 5, 0], ATOM), rule(ATOM, ATOM), rule(ATOM, ATOM),
                   rule(ATOM, ATOM), rule([], []), fact(0, 0, 0)),
            [-1, 0, -1, 1, 2, -7, -1, 1])

    def test_a_refused_rule_is_not_kept(self):
        house = House()
        for k in range(3):
            house.give_rule([k, 0, 0], ATOM)
        kept = list(house.rules)
        self.assertEqual(house.give_rule([3, 0, 0], ATOM), -7)
        self.assertEqual(house.give_rule([4, 0, 0], ATOM), -1)
        self.assertEqual(house.rules, kept)

    def test_room_again_behind_begins(self):
        self.assertEqual(firsts(*[rule(ATOM, ATOM)] * 4, begins(), *[rule(ATOM, ATOM)] * 4),
                         [0, 1, 2, -7, 0, 0, 1, 2, -7])


if __name__ == "__main__":
    unittest.main()
