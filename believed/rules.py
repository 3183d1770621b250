"""Rules, steps by them, and the claim."""

from believed.matches import facts_of, in_order, is_matched, matches_of, places_of, values_in

FIRST_UNKNOWN = 100


class Rule:
    """A body and a head of atoms; the body's places, and those of the head that the body hasn't, in their order."""

    def __init__(self, body, head):
        self.body = body
        self.head = head
        self.body_places = places_of(body)
        self.open_places = [place for place in places_of(head) if place not in self.body_places]


class Step:
    """Which rule, the values of its body's places, and the unknowns of the head's other ones."""

    def __init__(self, which, told, unknowns):
        self.which = which
        self.told = told
        self.unknowns = unknowns


class Claim:
    """Atoms, their places in order, and the settled ones of these, each a pair of a place and its value."""

    def __init__(self, atoms, settled):
        self.atoms = atoms
        self.settled = settled
        self.places = places_of(atoms)


def first_not_kept(rules, facts):
    """Which rule is the first that isn't kept, and the values of its body's first match without one of its head.

    None if all rules are kept.
    """
    for which, rule in enumerate(rules):
        for values in matches_of(rule.body, facts):
            if not is_matched(rule.head, facts, values):
                return (which, values_in(rule.body_places, values))
    return None


def facts_behind(step, rule, facts):
    """The facts, with the rule's head as the step puts it to them."""
    values = dict(zip(rule.body_places + rule.open_places, step.told + step.unknowns))
    return in_order(facts + facts_of(rule.head, values))


def first_so(claim, facts):
    """The values of the first match that has the settled ones; None if the claim isn't so."""
    for values in matches_of(claim.atoms, facts):
        # A place may be settled twice, with two values: then no match has both.
        if all([values[pair[0]] == pair[1] for pair in claim.settled]):
            return values_in(claim.places, values)
    return None
