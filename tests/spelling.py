"""Spells calls as believed.house.answers takes them, and reads what it gives back."""

from believed.house import answers

LARGEST = 4294967295


def call(number, numbers, lists):
    spelled = [number, len(numbers)] + list(numbers) + [len(lists)]
    for one in lists:
        spelled.append(len(one))
        spelled.extend(one)
    return spelled


def begins():
    return call(0, [], [])


def rule(body, head):
    return call(1, [], [body, head])


def fact(table, first, second):
    return call(2, [table, first, second], [])


def gone(table, first, second):
    return call(3, [table, first, second], [])


def claim(atoms, settled=()):
    return call(4, [], [atoms, settled])


def own():
    return call(5, [], [])


def sure(values, *steps):
    return call(6, [], [values, *steps])


def proves_not(*facts):
    """Each of the facts is its numbers; what they are joined to is handed in."""
    return call(7, [], [joined(facts)])


def joined(calls):
    return [number for one in calls for number in one]


def asked(*calls):
    """What each of the calls answers, as a list of lists."""
    told = answers(joined(calls))
    each = []
    at = 0
    while at < len(told):
        length = told[at]
        each.append(told[at + 1:at + 1 + length])
        at += 1 + length
    return each


def last(*calls):
    """What the last of the calls answers."""
    return asked(*calls)[-1]


def firsts(*calls):
    """What each of the calls answers, where each answers one number."""
    each = asked(*calls)
    for one in each:
        if len(one) != 1:
            raise AssertionError(f"not one number: {one}")
    return [one[0] for one in each]
