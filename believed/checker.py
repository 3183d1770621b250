"""The checker: goes through a proof and tells what's wrong first, knowing nothing of how it was found."""

from believed.matches import facts_of
from believed.rules import FIRST_UNKNOWN, facts_behind, first_not_kept, first_so

NOTHING_WRONG = 0

STEP_NOT_FITTING = 1
STEP_NOT_MATCHED = 2
STEP_NOT_NEW = 3
VALUES_NOT_FITTING = 4
CLAIM_NOT_MATCHED = 5
CLAIM_NOT_SETTLED = 6

FACT_MISSING = 1
RULE_NOT_KEPT = 2
CLAIM_SO = 3


def are_new(unknowns, facts):
    """Whether no unknown is known, stands in a fact, or is told twice."""
    for k, unknown in enumerate(unknowns):
        if unknown < FIRST_UNKNOWN or unknown in unknowns[:k]:
            return False
        if any([unknown in fact[1:] for fact in facts]):
            return False
    return True


def wrong_in_step(step, rules, facts):
    """What's wrong first in a step, with the facts that are there ahead of it."""
    if step.which >= len(rules):
        return STEP_NOT_FITTING
    rule = rules[step.which]
    if len(step.told) != len(rule.body_places) or len(step.unknowns) != len(rule.open_places):
        return STEP_NOT_FITTING
    body = facts_of(rule.body, dict(zip(rule.body_places, step.told)))
    if not all([fact in facts for fact in body]):
        return STEP_NOT_MATCHED
    if not are_new(step.unknowns, facts):
        return STEP_NOT_NEW
    return NOTHING_WRONG


def wrong_in_claim(claim, told, facts):
    """What's wrong first in the values that are told for the claim's places, with the facts behind all steps."""
    # With more values than places, too, they aren't one for each.
    if len(told) != len(claim.places):
        return [VALUES_NOT_FITTING]
    values = dict(zip(claim.places, told))
    for i, fact in enumerate(facts_of(claim.atoms, values)):
        if fact not in facts:
            return [CLAIM_NOT_MATCHED, i]
    for i, pair in enumerate(claim.settled):
        if values[pair[0]] != pair[1]:
            return [CLAIM_NOT_SETTLED, i]
    return [NOTHING_WRONG]


def wrong_in_sure(rules, given, claim, told, steps):
    """What's wrong first in a proof that the claim is sure: 0 alone if nothing is."""
    facts = given
    for j, step in enumerate(steps):
        wrong = wrong_in_step(step, rules, facts)
        if wrong != NOTHING_WRONG:
            return [wrong, j]
        facts = facts_behind(step, rules[step.which], facts)
    return wrong_in_claim(claim, told, facts)


def wrong_in_not(rules, given, claim, facts):
    """What's wrong first in a proof that the claim isn't sure: 0 alone if nothing is."""
    for fact in given:
        if fact not in facts:
            return [FACT_MISSING] + list(fact)
    unkept = first_not_kept(rules, facts)
    if unkept is not None:
        return [RULE_NOT_KEPT, unkept[0]] + unkept[1]
    so = first_so(claim, facts)
    if so is not None:
        return [CLAIM_SO] + so
    return [NOTHING_WRONG]
