"""The house's own proof: steps are made until the claim is so or all rules are kept."""

from believed.rules import FIRST_UNKNOWN, Step, facts_behind, first_not_kept, first_so

IS_SURE = 1
IS_NOT_SURE = 0
NONE_FOUND = -6
MOST_STEPS = 10


def numbers_of_steps(steps):
    numbers = []
    for step in steps:
        numbers.extend([step.which, len(step.told)] + step.told)
        numbers.extend([len(step.unknowns)] + step.unknowns)
    return numbers


def numbers_of_facts(facts):
    numbers = []
    for fact in facts:
        numbers.extend(fact)
    return numbers


def own_proof(rules, given, claim):
    """The numbers of the proof that the claim is sure, or that it isn't; or the refusal if 10 steps don't do."""
    facts = given
    steps = []
    unknown = FIRST_UNKNOWN
    while True:
        so = first_so(claim, facts)
        if so is not None:
            return [IS_SURE, len(steps)] + numbers_of_steps(steps) + so
        unkept = first_not_kept(rules, facts)
        if unkept is None:
            return [IS_NOT_SURE, len(facts)] + numbers_of_facts(facts)
        if len(steps) >= MOST_STEPS:
            return [NONE_FOUND]
        rule = rules[unkept[0]]
        behind = unknown + len(rule.open_places)
        step = Step(unkept[0], unkept[1], list(range(unknown, behind)))
        steps.append(step)
        unknown = behind
        facts = facts_behind(step, rule, facts)
