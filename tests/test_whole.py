"""All eight calls together: against the words, told once more in the plainest way, and against one another."""

import itertools
import random
import unittest

from believed.house import answers
from tests.spelling import LARGEST, asked, begins, call, claim, fact, gone, joined, last, own, proves_not, rule, sure


def triples(numbers):
    return [tuple(numbers[k:k + 3]) for k in range(0, len(numbers), 3)]


def places(*atoms):
    return list(dict.fromkeys(place for atom in atoms for place in atom[1:]))


def matches(atoms, facts):
    """Every way to take a fact for each atom, in order, that gives no place two values."""
    for taken in itertools.product(sorted(set(facts)), repeat=len(atoms)):
        pairs = {pair for atom, one in zip(atoms, taken) for pair in zip(atom[1:], one[1:])}
        if all(atom[0] == one[0] for atom, one in zip(atoms, taken)) and len(pairs) == len(dict(pairs)):
            yield dict(pairs)


def put(atoms, values):
    return [(atom[0], values[atom[1]], values[atom[2]]) for atom in atoms]


def well_formed(numbers):
    return len(numbers) in (3, 6) and all(t < 4 and a < 5 and b < 5 for t, a, b in triples(numbers))


class Words:
    """The house as the words tell it, call by call."""

    def __init__(self):
        self.begins()

    def begins(self):
        self.rules, self.facts, self.atoms, self.settled = [], set(), [], []
        return [0]

    def rule(self, body, head):
        if not (well_formed(body) and well_formed(head)):
            return [-1]
        if len(self.rules) == 3:
            return [-7]
        self.rules.append((triples(body), triples(head)))
        return [len(self.rules) - 1]

    def fact(self, table, first, second):
        if table > 3 or max(first, second) > 19:
            return [-1]
        if (table, first, second) in self.facts:
            return [-4]
        if len(self.facts) == 5:
            return [-7]
        self.facts.add((table, first, second))
        return [len(self.facts)]

    def gone(self, *one):
        if one not in self.facts:
            return [-2]
        self.facts.discard(one)
        return [len(self.facts)]

    def claim(self, atoms, settled):
        if not well_formed(atoms) or len(settled) % 2:
            return [-1]
        pairs = list(zip(settled[::2], settled[1::2]))
        if any(place not in places(*triples(atoms)) or value > 19 for place, value in pairs):
            return [-1]
        self.atoms, self.settled = triples(atoms), pairs
        return [0]

    def so(self, facts):
        for values in matches(self.atoms, facts):
            if all(values[place] == value for place, value in self.settled):
                return [values[place] for place in places(*self.atoms)]
        return None

    def not_kept(self, facts):
        for which, (body, head) in enumerate(self.rules):
            heads = list(matches(head, facts))
            for values in matches(body, facts):
                if not any(all(one.get(place, value) == value for place, value in values.items()) for one in heads):
                    return which, [values[place] for place in places(*body)]
        return None

    def own(self):
        facts, told, unknowns = set(self.facts), [], itertools.count(100)
        for made in range(11):
            if self.so(facts) is not None:
                return [1, made] + told + self.so(facts)
            if self.not_kept(facts) is None:
                return [0, len(facts)] + [number for one in sorted(facts) for number in one]
            which, values = self.not_kept(facts)
            body, head = self.rules[which]
            new = [next(unknowns) for place in places(*head) if place not in places(*body)]
            told += [which, len(values)] + values + [len(new)] + new
            facts.update(put(head, dict(zip(places(*body, *head), values + new))))
        return [-6]

    def sure(self, values, *steps):
        if any(len(step) < 2 or len(step) < 2 + step[1] for step in steps):
            return [-1]
        facts = set(self.facts)
        for j, (which, count, *numbers) in enumerate(steps):
            body, head = self.rules[which] if which < len(self.rules) else ([], [])
            if not body or count != len(places(*body)) or len(numbers) != len(places(*body, *head)):
                return [1, j]
            filled = dict(zip(places(*body, *head), numbers))
            if not facts.issuperset(put(body, filled)):
                return [2, j]
            there = {value for one in facts for value in one[1:]}
            new = numbers[count:]
            if any(value < 100 or value in there or new.count(value) > 1 for value in new):
                return [3, j]
            facts.update(put(head, filled))
        if len(values) != len(places(*self.atoms)):
            return [4]
        filled = dict(zip(places(*self.atoms), values))
        wrong = [[5, i] for i, one in enumerate(put(self.atoms, filled)) if one not in facts]
        wrong += [[6, i] for i, (place, value) in enumerate(self.settled) if filled[place] != value]
        return (wrong + [[0]])[0]

    def proves_not(self, numbers):
        if len(numbers) % 3 or any(table > 3 for table in numbers[::3]):
            return [-1]
        facts = triples(numbers)
        for one in sorted(self.facts):
            if one not in facts:
                return [1, *one]
        if self.not_kept(facts) is not None:
            which, values = self.not_kept(facts)
            return [2, which] + values
        if self.so(facts) is not None:
            return [3] + self.so(facts)
        return [0]

    def told(self, number, numbers, lists):
        calls = (self.begins, self.rule, self.fact, self.gone, self.claim, self.own, self.sure, self.proves_not)
        return calls[number](*numbers, *lists)


class Asker:
    """Makes lists of calls of all kinds, by a seed, most of them near to what is taken."""

    def __init__(self, seed):
        self.chance = random.Random(seed)
        self.words = Words()
        self.calls = []
        self.told = []
        self.tables = self.chance.choice((1, 2, 3, 4, 4, 4))
        self.values = self.chance.choice((2, 3, 5, 20))
        self.places = self.chance.choice((2, 3, 5))

    def ask(self, number, numbers=(), lists=()):
        self.calls.append((number, list(numbers), [list(one) for one in lists]))
        self.told.append(self.words.told(*self.calls[-1]))
        return self.told[-1]

    def seldom(self):
        return self.chance.random() < 0.05

    def table(self):
        return self.chance.choice((4, LARGEST)) if self.seldom() else self.chance.randrange(self.tables)

    def value(self):
        return self.chance.choice((19, 20, 99, 100, LARGEST)) if self.seldom() else self.chance.randrange(self.values)

    def place(self):
        return self.chance.choice((4, 5, LARGEST)) if self.seldom() else self.chance.randrange(self.places)

    def atoms(self, tables=()):
        """Mostly 1 or 2 atoms, of these tables or, if none are told, of any."""
        count = self.chance.choice((0, 3, 4)) if self.seldom() else self.chance.choice((1, 1, 2))
        return [number for k in range(count)
                for number in (self.chance.choice(tables or (self.table(),)), self.place(), self.place())]

    def fact(self):
        """Mostly of table 0, so that what's claimed is mostly not given but to be made by steps."""
        return [self.chance.choice((0, 0, 0, self.table())), self.value(), self.value()]

    def heads(self):
        return [atom[0] for body, head in self.words.rules for atom in head]

    def ask_rule(self):
        """Bodies are of tables that have facts or may come to have some, so that rules are mostly not kept at first."""
        self.ask(1, [], [self.atoms([0, 0, *self.heads()]), self.atoms()])

    def settled(self, atoms):
        count = self.chance.choice((0, 0, 1, 1, 2))
        pairs = [(self.chance.choice(atoms[1:3] or [0]), self.value()) for k in range(count)]
        return joined(pairs) + ([0] if self.seldom() else [])

    def changed(self, numbers):
        """The numbers, now and then with one put in, taken out or told otherwise."""
        numbers = list(numbers)
        how = self.chance.randrange(8)
        at = self.chance.randrange(len(numbers) + 1)
        if how == 0:
            numbers.insert(at, self.chance.choice((0, 1, 2, 100, 101)))
        elif how == 1:
            numbers[at:at + 1] = []
        elif how == 2:
            numbers[at:at + 1] = [self.chance.choice((0, 1, 2, 3, 99, 100, 101, 102, LARGEST))]
        return numbers[:40]

    def ask_sure(self):
        found = self.words.own()
        steps, values = steps_and_values(found) if found[0] == 1 else ([], [self.value() for k in range(2)])
        if steps and self.chance.random() < 0.7:
            at = self.chance.randrange(len(steps))
            steps[at] = self.changed(steps[at])
        if steps and self.chance.random() < 0.2:
            steps.append(self.chance.choice(steps))
        if self.chance.random() < 0.2:
            self.chance.shuffle(steps)
        self.ask(6, [], [self.changed(values), *steps[:12]])

    def ask_not(self):
        found = self.words.own()
        facts = found[2:] if found[0] == 0 else joined(sorted(self.words.facts))
        if self.chance.random() < 0.5:
            facts = joined([facts, (self.table(), self.value(), self.chance.choice((self.value(), 100)))])
        self.ask(7, [], [self.changed(facts[:39])])

    def ask_claim(self):
        atoms = self.atoms(self.heads()[-2:])
        self.ask(4, [], [atoms, self.settled(atoms)])

    def ask_house(self):
        for k in range(self.chance.randrange(1, 6)):
            self.ask(2, self.fact())
        for k in range(self.chance.randrange(1, 4)):
            self.ask_rule()
        self.ask_claim()

    def fill(self, length):
        self.ask_house()
        while len(self.calls) < length:
            number = self.chance.choice((1, 1, 1, 2, 2, 2, 2, 3, 4, 4, 5, 6, 6, 6, 7, 7, 7))
            if self.chance.random() < 0.05 and len(self.calls) + 10 <= length:
                self.ask(0)
                self.ask_house()
            elif number == 1:
                self.ask_rule()
            elif number == 2:
                self.ask(2, self.fact())
            elif number == 3:
                self.ask(3, self.chance.choice([self.fact(), *sorted(self.words.facts)]))
            elif number == 4:
                self.ask_claim()
            elif number == 5 and len([one for one in self.calls if one[0] == 5]) < 6:
                self.ask(5)
            elif number == 6:
                self.ask_sure()
            elif number == 7:
                self.ask_not()
        return self

    def spelled(self):
        return joined([call(*one) for one in self.calls])


def steps_and_values(found):
    """What own answers where it's sure, as sure takes it."""
    steps = []
    at = 2
    for k in range(found[1]):
        values = found[at + 2:at + 2 + found[at + 1]]
        at += 2 + len(values)
        unknowns = found[at + 1:at + 1 + found[at]]
        steps.append([found[at - 2 - len(values)], len(values)] + values + unknowns)
        at += 1 + len(unknowns)
    return steps, found[at:]


class AgainstTheWords(unittest.TestCase):

    @classmethod
    def setUpClass(cls):
        cls.askers = [Asker(seed).fill(60) for seed in range(150)]

    def test_lists_of_60_calls(self):
        for seed, asker in enumerate(self.askers):
            self.assertEqual(answers(asker.spelled()), joined([[len(one)] + one for one in asker.told]), seed)

    def test_they_are_mixed(self):
        # What these lists are asked for is worth nothing if most of it is refused: every answer must come.
        seen = {(one[0], told[0]) for asker in self.askers for one, told in zip(asker.calls, asker.told)}
        for number, firsts in ((0, (0,)), (1, (-7, -1, 0, 1, 2)), (2, (-7, -4, -1, 1, 2, 3, 4, 5)),
                               (3, (-2, 0, 1, 2, 3, 4)), (4, (-1, 0)), (5, (-6, 0, 1)),
                               (6, (-1, 0, 1, 2, 3, 4, 5, 6)), (7, (-1, 0, 1, 2, 3))):
            self.assertEqual(sorted(first for which, first in seen if which == number), list(firsts), number)

    def test_what_is_handed_in_is_as_it_was_and_again_the_same(self):
        for asker in self.askers[:40]:
            calls = asker.spelled()
            before = list(calls)
            first = answers(calls)
            self.assertEqual(calls, before)
            self.assertEqual(answers(calls), first)
            self.assertEqual(calls, before)

    def test_in_the_other_order_nothing_is_kept(self):
        told = [answers(asker.spelled()) for asker in self.askers[:40]]
        again = [answers(asker.spelled()) for asker in reversed(self.askers[:40])]
        self.assertEqual(again[::-1], told)

    def test_no_number_is_below_0_but_a_refusal_alone(self):
        for asker in self.askers:
            for one in asked(asker.spelled()):
                self.assertTrue(len(one) == 1 or min(one) >= 0, one)


class OwnIsTaken(unittest.TestCase):
    """What own answers, the checker takes; and it never takes both that it's sure and that it isn't."""

    def test_what_own_answers(self):
        kinds = {-6: 0, 0: 0, 1: 0}
        for seed in range(300):
            asker = Asker(seed)
            asker.ask_house()
            made = asker.spelled()
            found = last(made, own())
            kinds[found[0]] += 1
            if found[0] == 1:
                steps, values = steps_and_values(found)
                self.assertEqual(last(made, own(), sure(values, *steps)), [0], seed)
                self.assertNotEqual(last(made, proves_not(*sorted(asker.words.facts))), [0], seed)
            elif found[0] == 0 and len(found) - 2 <= 40:
                self.assertEqual(len(found), 2 + 3 * found[1])
                self.assertEqual(last(made, own(), proves_not(found[2:])), [0], seed)
        self.assertGreater(min(kinds.values()), 10, kinds)

    def test_10_steps_and_12(self):
        made = [fact(0, k, k + 1) for k in range(5)]
        made += [rule([0, 0, 1], [1, 0, 1]), rule([1, 0, 1], [2, 0, 1]), claim([2, 0, 1], [0, 4])]
        steps, values = steps_and_values(last(*made, own()))
        self.assertEqual(len(steps), 10)
        self.assertEqual(last(*made, sure(values, *steps)), [0])
        self.assertEqual(last(*made, sure(values, *steps, steps[0], steps[1])), [0])
        self.assertEqual(last(*made, sure(values, *steps[:9])), [5, 0])

    def test_no_claim(self):
        found = last(own())
        self.assertEqual(found, [1, 0])
        self.assertEqual(last(sure([])), [0])

    def test_a_claim_that_unknowns_make_so(self):
        made = [fact(0, 1, 2), rule([0, 0, 1], [1, 1, 2, 2, 2, 3]), claim([1, 0, 1, 2, 1, 2], [0, 2])]
        found = last(*made, own())
        self.assertEqual(found, [1, 1, 0, 2, 1, 2, 2, 100, 101, 2, 100, 101])
        self.assertEqual(last(*made, sure([2, 100, 101], [0, 2, 1, 2, 100, 101])), [0])


class Mixed(unittest.TestCase):

    def test_a_list_of_60_calls_by_hand(self):
        """One house again and again, with every call in it; the answers are told by hand."""
        calls = [fact(0, 1, 2), rule([0, 0, 1], [1, 1, 2]), claim([1, 0, 1], [0, 2]), own(),
                 sure([2, 100], [0, 2, 1, 2, 100]), proves_not([0, 1, 2]), gone(0, 1, 2), own(), proves_not(),
                 begins()]
        told = [[1], [0], [0], [1, 1, 0, 2, 1, 2, 1, 100, 2, 100], [0], [2, 0, 1, 2], [0], [0, 0], [0], [0]]
        behind = [fact(0, 1, 2), rule([0, 0, 1], [1, 1, 2]), claim([1, 0, 1], [0, 2]), fact(4, 0, 0),
                  sure([2, 100], [0, 2, 1, 2, 100]), proves_not([0, 1, 2], [1, 2, 3]), gone(0, 1, 2), rule([], []),
                  proves_not(), begins()]
        told_behind = [[1], [0], [0], [-1], [0], [3, 2, 3], [0], [-1], [0], [0]]
        self.assertEqual(asked(*(calls + behind) * 3), (told + told_behind) * 3)
        self.assertEqual(len((calls + behind) * 3), 60)

    def test_each_call_may_come_first(self):
        self.assertEqual(
            [last(one) for one in (begins(), rule([0, 0, 0], [0, 0, 0]), fact(0, 0, 0), gone(0, 0, 0), claim([0, 0, 0]),
                                   own(), sure([]), proves_not())],
            [[0], [0], [1], [-2], [0], [1, 0], [0], [3]])

    def test_the_longest_calls(self):
        longest = [sure([LARGEST] * 40, *[[0, 38] + [LARGEST] * 38] * 12)] * 57
        told = asked(*longest, claim([0] * 40, [LARGEST] * 40), call(7, [], [[LARGEST] * 40]), own())
        self.assertEqual(told, [[1, 0]] * 57 + [[-1], [-1], [1, 0]])


if __name__ == "__main__":
    unittest.main()
