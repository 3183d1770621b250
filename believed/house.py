"""The house: answers(calls) goes through one list of calls and tells what each answers."""

BEGINS = 0
RULE = 1
FACT = 2
GONE = 3

TABLES = 4
PLACES = 5
GIVEN_VALUES = 20
MOST_RULES = 3
MOST_FACTS = 5
MOST_ATOMS = 2
ATOM_LENGTH = 3

NOT_FORMED = -1
NOT_THERE = -2
GIVEN_ALREADY = -4
FULL = -7


class Reader:
    """Goes through the list of calls from its beginning to its end, and never changes it."""

    def __init__(self, calls):
        self.calls = calls
        self.at = 0

    def is_done(self):
        return self.at >= len(self.calls)

    def take_number(self):
        number = self.calls[self.at]
        self.at = self.at + 1
        return number

    def take_list(self):
        """The numbers of a list, as a copy, that stand behind how many they are."""
        length = self.take_number()
        start = self.at
        self.at = start + length
        return self.calls[start:start + length]

    def take_lists(self):
        """The lists that stand behind how many they are."""
        lists = []
        for k in range(self.take_number()):
            lists.append(self.take_list())
        return lists


class House:
    """The rules, each a body and a head of atoms, and the given facts, in their order."""

    def __init__(self):
        self.begin()

    def begin(self):
        self.rules = []
        self.facts = []
        return 0

    def give_rule(self, body, head):
        if not are_formed(body) or not are_formed(head):
            return NOT_FORMED
        if len(self.rules) >= MOST_RULES:
            return FULL
        self.rules.append((atoms_of(body), atoms_of(head)))
        return len(self.rules) - 1

    def give_fact(self, table, first, second):
        if table >= TABLES or first >= GIVEN_VALUES or second >= GIVEN_VALUES:
            return NOT_FORMED
        fact = (table, first, second)
        if fact in self.facts:
            return GIVEN_ALREADY
        if len(self.facts) >= MOST_FACTS:
            return FULL
        self.facts = sorted(self.facts + [fact])
        return len(self.facts)

    def take_fact(self, table, first, second):
        fact = (table, first, second)
        # A table or value that no fact may have is no refusal of its own here: there is no such fact.
        if fact not in self.facts:
            return NOT_THERE
        self.facts.remove(fact)
        return len(self.facts)


def is_atom(atom):
    return atom[0] < TABLES and atom[1] < PLACES and atom[2] < PLACES


def atoms_of(numbers):
    """The atoms that stand one behind another in numbers, which are whole atoms."""
    return [(numbers[k], numbers[k + 1], numbers[k + 2]) for k in range(0, len(numbers), ATOM_LENGTH)]


def are_formed(numbers):
    """Whether the numbers are 1 or 2 atoms, with none left over."""
    if len(numbers) % ATOM_LENGTH != 0:
        return False
    atoms = atoms_of(numbers)
    if len(atoms) < 1 or len(atoms) > MOST_ATOMS:
        return False
    return all([is_atom(atom) for atom in atoms])


def answer(house, which, numbers, lists):
    """The numbers that one call answers."""
    if which == BEGINS:
        return [house.begin()]
    if which == RULE:
        return [house.give_rule(lists[0], lists[1])]
    if which == FACT:
        return [house.give_fact(numbers[0], numbers[1], numbers[2])]
    if which == GONE:
        return [house.take_fact(numbers[0], numbers[1], numbers[2])]
    raise NotImplementedError(f"call {which}")


def answers(calls):
    """For each call, in order, how many numbers it answers, then these."""
    house = House()
    reader = Reader(calls)
    told = []
    while not reader.is_done():
        which = reader.take_number()
        numbers = reader.take_list()
        lists = reader.take_lists()
        answered = answer(house, which, numbers, lists)
        told.append(len(answered))
        told.extend(answered)
    return told
