"""The house: answers(calls) goes through one list of calls and tells what each answers."""

from believed.checker import wrong_in_not, wrong_in_sure
from believed.matches import in_order
from believed.own import own_proof
from believed.rules import Claim, Rule, Step

BEGINS = 0
RULE = 1
FACT = 2
GONE = 3
CLAIM = 4
OWN = 5
SURE = 6

TABLES = 4
PLACES = 5
GIVEN_VALUES = 20
MOST_RULES = 3
MOST_FACTS = 5
MOST_ATOMS = 2
TRIPLE = 3
PAIR = 2

NOT_FORMED = -1
NOT_THERE = -2
GIVEN_ALREADY = -4
FULL = -7


class Reader:
    """Goes through the list of calls from its beginning to its end, and never changes it."""

    def __init__(self, calls):
        self.calls = calls
        self.at = 0

    def is_done(self):
        return self.at >= len(self.calls)

    def take_number(self):
        number = self.calls[self.at]
        self.at = self.at + 1
        return number

    def take_list(self):
        """The numbers of a list, as a copy, that stand behind how many they are."""
        length = self.take_number()
        start = self.at
        self.at = start + length
        return self.calls[start:start + length]

    def take_lists(self):
        """The lists that stand behind how many they are."""
        lists = []
        for k in range(self.take_number()):
            lists.append(self.take_list())
        return lists


class House:
    """The rules, the given facts, in their order, and the claim."""

    def __init__(self):
        self.begin()

    def begin(self):
        self.rules = []
        self.facts = []
        self.claim = Claim([], [])
        return 0

    def give_rule(self, body, head):
        if not are_formed(body) or not are_formed(head):
            return NOT_FORMED
        if len(self.rules) >= MOST_RULES:
            return FULL
        self.rules.append(Rule(triples_of(body), triples_of(head)))
        return len(self.rules) - 1

    def give_fact(self, table, first, second):
        if table >= TABLES or first >= GIVEN_VALUES or second >= GIVEN_VALUES:
            return NOT_FORMED
        fact = (table, first, second)
        if fact in self.facts:
            return GIVEN_ALREADY
        if len(self.facts) >= MOST_FACTS:
            return FULL
        self.facts = in_order(self.facts + [fact])
        return len(self.facts)

    def take_fact(self, table, first, second):
        fact = (table, first, second)
        # A table or value that no fact may have is no refusal of its own here: there is no such fact.
        if fact not in self.facts:
            return NOT_THERE
        self.facts.remove(fact)
        return len(self.facts)

    def give_claim(self, atoms, settled):
        if not are_formed(atoms) or len(settled) % PAIR != 0:
            return NOT_FORMED
        claim = Claim(triples_of(atoms), pairs_of(settled))
        for pair in claim.settled:
            if pair[0] not in claim.places or pair[1] >= GIVEN_VALUES:
                return NOT_FORMED
        self.claim = claim
        return 0

    def find_own(self):
        return own_proof(self.rules, self.facts, self.claim)

    def check_sure(self, told, lists):
        # A refusal is of the whole call: it comes ahead of whatever is wrong in an earlier step.
        if not all([is_step(numbers) for numbers in lists]):
            return [NOT_FORMED]
        return wrong_in_sure(self.rules, self.facts, self.claim, told, [step_of(numbers) for numbers in lists])

    def check_not(self, numbers):
        if len(numbers) % TRIPLE != 0:
            return [NOT_FORMED]
        facts = in_order(triples_of(numbers))
        if not all([fact[0] < TABLES for fact in facts]):
            return [NOT_FORMED]
        return wrong_in_not(self.rules, self.facts, self.claim, facts)


def triples_of(numbers):
    """The atoms or facts that stand one behind another in numbers, of which none is left over."""
    return [(numbers[k], numbers[k + 1], numbers[k + 2]) for k in range(0, len(numbers), TRIPLE)]


def pairs_of(numbers):
    """The pairs that stand one behind another in numbers, of which none is left over."""
    return [(numbers[k], numbers[k + 1]) for k in range(0, len(numbers), PAIR)]


def is_atom(atom):
    return atom[0] < TABLES and atom[1] < PLACES and atom[2] < PLACES


def are_formed(numbers):
    """Whether the numbers are 1 or 2 atoms, with none left over."""
    if len(numbers) % TRIPLE != 0:
        return False
    atoms = triples_of(numbers)
    if len(atoms) < 1 or len(atoms) > MOST_ATOMS:
        return False
    return all([is_atom(atom) for atom in atoms])


def is_step(numbers):
    """Whether there's a rule, how many values there are, and these."""
    return len(numbers) >= 2 and len(numbers) - 2 >= numbers[1]


def step_of(numbers):
    behind = 2 + numbers[1]
    return Step(numbers[0], numbers[2:behind], numbers[behind:])


def answer(house, which, numbers, lists):
    """The numbers that one call answers."""
    if which == BEGINS:
        return [house.begin()]
    if which == RULE:
        return [house.give_rule(lists[0], lists[1])]
    if which == FACT:
        return [house.give_fact(numbers[0], numbers[1], numbers[2])]
    if which == GONE:
        return [house.take_fact(numbers[0], numbers[1], numbers[2])]
    if which == CLAIM:
        return [house.give_claim(lists[0], lists[1])]
    if which == OWN:
        return house.find_own()
    if which == SURE:
        return house.check_sure(lists[0], lists[1:])
    # There's but one call more, proves_not.
    return house.check_not(lists[0])


def answers(calls):
    """For each call, in order, how many numbers it answers, then these."""
    house = House()
    reader = Reader(calls)
    told = []
    while not reader.is_done():
        which = reader.take_number()
        numbers = reader.take_list()
        lists = reader.take_lists()
        answered = answer(house, which, numbers, lists)
        told.append(len(answered))
        told.extend(answered)
    return told
