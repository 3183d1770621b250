"""How calls are handed in and answered: one list of whole numbers each way."""

import contextlib
import io
import unittest

from believed.house import answers
from tests.spelling import LARGEST, begins, claim, fact, gone, joined, own, proves_not, rule, sure


class Spelling(unittest.TestCase):
    """Number by number, without the helper, so that a fault in it can't hide one in the program."""

    def test_begins(self):
        self.assertEqual(answers([0, 0, 0]), [1, 0])

    def test_rule(self):
        self.assertEqual(answers([1, 0, 2, 3, 0, 0, 1, 6, 1, 1, 2, 3, 4, 4]), [1, 0])

    def test_rule_of_empty_lists(self):
        self.assertEqual(answers([1, 0, 2, 0, 0]), [1, -1])

    def test_fact(self):
        self.assertEqual(answers([2, 3, 3, 19, 0, 0]), [1, 1])

    def test_gone(self):
        self.assertEqual(answers([3, 3, 3, 19, 0, 0]), [1, -2])

    def test_claim(self):
        self.assertEqual(answers([4, 0, 2, 3, 0, 0, 1, 2, 1, 19]), [1, 0])
        self.assertEqual(answers([4, 0, 2, 6, 0, 0, 1, 3, 4, 4, 0]), [1, 0])
        self.assertEqual(answers([4, 0, 2, 3, 0, 0, 1, 1, 0]), [1, -1])

    def test_claim_of_empty_lists(self):
        self.assertEqual(answers([4, 0, 2, 0, 0]), [1, -1])

    def test_own(self):
        self.assertEqual(answers([5, 0, 0]), [2, 1, 0])

    def test_own_with_steps(self):
        self.assertEqual(
            answers([2, 3, 0, 1, 2, 0, 1, 0, 2, 3, 0, 0, 1, 3, 1, 1, 2, 4, 0, 2, 3, 1, 0, 1, 2, 0, 2, 5, 0, 0]),
            [1, 1, 1, 0, 1, 0, 10, 1, 1, 0, 2, 1, 2, 1, 100, 2, 100])

    def test_own_with_facts(self):
        self.assertEqual(answers([2, 3, 3, 1, 2, 0, 2, 3, 0, 4, 5, 0, 4, 0, 2, 3, 1, 0, 1, 0, 5, 0, 0]),
                         [1, 1, 1, 2, 1, 0, 8, 0, 2, 0, 4, 5, 3, 1, 2])

    def test_sure(self):
        self.assertEqual(answers([6, 0, 1, 0]), [1, 0])
        self.assertEqual(answers([6, 0, 1, 2, 7, 8]), [1, 4])
        self.assertEqual(answers([6, 0, 3, 1, 7, 2, 0, 0, 0]), [1, -1])
        self.assertEqual(answers([6, 0, 3, 1, 7, 2, 0, 0, 3, 0, 0, 100]), [2, 1, 0])

    def test_proves_not(self):
        self.assertEqual(answers([7, 0, 1, 0]), [1, 3])
        self.assertEqual(answers([7, 0, 1, 3, 3, 4294967295, 0]), [1, 3])
        self.assertEqual(answers([7, 0, 1, 4, 3, 4294967295, 0, 3]), [1, -1])
        self.assertEqual(answers([2, 3, 2, 7, 8, 0, 7, 0, 1, 0]), [1, 1, 4, 1, 2, 7, 8])

    def test_one_behind_another(self):
        self.assertEqual(
            answers([2, 3, 0, 1, 2, 0, 1, 0, 2, 3, 0, 0, 1, 3, 1, 1, 2, 3, 3, 0, 1, 2, 0, 0, 0, 0,
                     1, 0, 2, 4, 0, 0, 1, 0, 0, 2, 3, 0, 20, 0, 0]),
            [1, 1, 1, 0, 1, 0, 1, 0, 1, -1, 1, -1])

    def test_a_refused_rule_is_read_to_its_end(self):
        long_one = [LARGEST] * 40
        self.assertEqual(answers([1, 0, 2, 40] + long_one + [40] + long_one + [2, 3, 0, 0, 0, 0]), [1, -1, 1, 1])


class WholeProgram(unittest.TestCase):

    def setUp(self):
        self.calls = joined([
            rule([0, 0, 1], [1, 1, 2]), fact(0, 1, 2), fact(0, 1, 2), rule([], []), gone(0, 1, 2), gone(0, 1, 2),
            fact(3, 19, 19), begins(), fact(3, 19, 19), rule([3, 4, 4, 0, 0, 0], [2, 2, 2, 1, 1, 1]),
            claim([3, 0, 1, 3, 1, 2], [2, 19]), own(), sure([19, 19, 19]), sure([], [0, 2, 0, 0, 100, 101]),
            sure([], []), proves_not([3, 19, 19]), proves_not([0, 0, 0], [3, 19, 19]), proves_not([0])])
        self.told = [1, 0, 1, 1, 1, -4, 1, -1, 1, 0, 1, -2, 1, 1, 1, 0, 1, 1, 1, 0,
                     1, 0, 5, 1, 0, 19, 19, 19, 1, 0, 2, 2, 0, 1, -1, 4, 3, 19, 19, 19, 4, 2, 0, 19, 0, 1, -1]

    def test_what_is_handed_in_is_as_it_was(self):
        before = list(self.calls)
        answers(self.calls)
        self.assertEqual(self.calls, before)

    def test_what_is_handed_in_is_only_read(self):
        class OnlyRead(list):
            def refuse(self, *args):
                raise AssertionError("the list is changed")
            __setitem__ = __delitem__ = __iadd__ = __imul__ = refuse
            append = extend = insert = pop = remove = clear = sort = reverse = refuse
        self.assertEqual(answers(OnlyRead(self.calls)), self.told)

    def test_nothing_is_kept_from_one_time_to_the_next(self):
        self.assertEqual(answers(self.calls), self.told)
        self.assertEqual(answers(self.calls), self.told)
        full = joined([fact(0, 0, k) for k in range(5)] + [rule([0, 0, 0], [0, 0, 0])] * 3)
        self.assertEqual(answers(full), answers(full))

    def test_what_is_given_back_is_a_new_list_each_time(self):
        told = answers(self.calls)
        told.clear()
        self.assertEqual(answers(self.calls), self.told)

    def test_whole_numbers_in_a_list(self):
        told = answers(self.calls)
        self.assertIs(type(told), list)
        self.assertEqual({type(number) for number in told}, {int})

    def test_nothing_is_printed(self):
        out = io.StringIO()
        wrong = io.StringIO()
        with contextlib.redirect_stdout(out), contextlib.redirect_stderr(wrong):
            answers(self.calls)
        self.assertEqual((out.getvalue(), wrong.getvalue()), ("", ""))

    def test_sixty_calls(self):
        pairs = [fact(0, 0, 0), gone(0, 0, 0)] * 30
        self.assertEqual(answers(joined(pairs)), [1, 1, 1, 0] * 30)

    def test_long_calls(self):
        longest = [rule([0] * 40, [LARGEST] * 40)] * 60
        self.assertEqual(answers(joined(longest)), [1, -1] * 60)


if __name__ == "__main__":
    unittest.main()
