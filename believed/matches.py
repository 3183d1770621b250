"""Facts and atoms: which facts match some atoms, and with which values in their places.

A fact is a table and two values, an atom a table and two places; each is a tuple of three. The values of a match
are a dict by places.
"""


def in_order(facts):
    """The facts by table, then by the first value, then by the second, each once."""
    return sorted(set(facts))


def places_of(atoms):
    """The places of the atoms, in the order in which they first come."""
    places = []
    for atom in atoms:
        for place in atom[1:]:
            if place not in places:
                places.append(place)
    return places


def values_in(places, values):
    return [values[place] for place in places]


def facts_of(atoms, values):
    """The facts that the atoms are with these values in their places."""
    return [(atom[0], values[atom[1]], values[atom[2]]) for atom in atoms]


def matched_by(atom, fact, values):
    """The values and those with which the fact matches the atom; None if it doesn't match with these values."""
    if atom[0] != fact[0]:
        return None
    longer = dict(values)
    for k in (1, 2):
        if longer.setdefault(atom[k], fact[k]) != fact[k]:
            return None
    return longer


def matches_of(atoms, facts):
    """All matches of the atoms, in their order; of no atoms there's one, with no values."""
    matches = [{}]
    for atom in atoms:
        longer = []
        for values in matches:
            found = [matched_by(atom, fact, values) for fact in facts]
            longer.extend([each for each in found if each is not None])
        matches = longer
    return matches


def is_matched(atoms, facts, values):
    """Whether the facts match the atoms with these values, and with any in the places that have none of these."""
    if len(atoms) == 0:
        return True
    for fact in facts:
        longer = matched_by(atoms[0], fact, values)
        if longer is not None and is_matched(atoms[1:], facts, longer):
            return True
    return False
