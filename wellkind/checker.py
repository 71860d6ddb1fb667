"""Checking: the kinds of an expression's parts, or its first fault.

notes(expr, scope) gives the pairs of a place and a kind, fault(expr, scope)
the first fault or None, kind_of(expr, scope) the kind of the whole.
"""

from wellkind.errors import BadKind
from wellkind.parts import in_order

NUM = ("num",)
TRUTH = ("truth",)


def notes(expr, scope):
    return checked(expr, scope)[0]


def fault(expr, scope):
    return checked(expr, scope)[1]


def kind_of(expr, scope):
    outcome = checked(expr, scope)
    if outcome[1] is not None:
        place = outcome[1][0]
        raise BadKind(f"the expression has a fault at the place {place}")
    return outcome[0][-1][1]


# The notes, and the first fault or None. The notes are the kinds as they came,
# since a dict keeps that order.
def checked(expr, scope):
    pairs = in_order(expr)
    scopes = scopes_by_place(pairs, scope)
    kinds = {}
    for place, part in pairs:
        own = [kinds[place + (number,)] for number in range(len(part[2]))]
        breach = breach_of_rule(part, own, scopes[place])
        if breach is not None:
            return (list(kinds.items()), (place + breach[0], breach[1], breach[2]))
        kinds[place] = kind_by_rule(part, own, scopes[place])
    return (list(kinds.items()), None)


# Backwards, a whole comes ahead of its own parts, and so its scope is there
# when theirs are made of it.
def scopes_by_place(pairs, scope):
    scopes = {(): dict(scope)}
    for place, part in reversed(pairs):
        for number in range(len(part[2])):
            scopes[place + (number,)] = scope_within(part, number, scopes[place])
    return scopes


# A scope with nothing new in it is shared, never changed.
def scope_within(part, number, known):
    if part[0] == "fun":
        inner = dict(known)
        inner[part[1][0]] = part[1][1]
        return inner
    if part[0] == "case" and number == 2:
        inner = dict(known)
        inner[part[1][1]] = part[1][0]
        inner[part[1][2]] = ("list", part[1][0])
        return inner
    return known


# How a part's rule isn't met: the steps from the part to where that is told,
# the due kind and the kind found. None where the rule is met.
def breach_of_rule(part, own, known):
    if part[0] == "name" and part[1][0] not in known:
        return ((), None, None)
    if part[0] == "call" and own[0][0] != "to":
        return ((0,), None, own[0])
    for number, due in enumerate(due_kinds(part, own)):
        if due is not None and not same_kind(due, own[number]):
            return ((number,), due, own[number])
    return None


# One for each own part: the kind that it must be, None where any kind will do.
def due_kinds(part, own):
    if part[0] in ("add", "less"):
        return [NUM, NUM]
    if part[0] == "if":
        return [TRUTH, None, own[1]]
    if part[0] == "front":
        return [None, ("list", own[0])]
    if part[0] == "case":
        return [("list", part[1][0]), None, own[1]]
    if part[0] == "call":
        return [None, own[0][1]]
    return [None for kind in own]


def kind_by_rule(part, own, known):
    if part[0] in ("num", "add"):
        return NUM
    if part[0] in ("truth", "less"):
        return TRUTH
    if part[0] == "name":
        return known[part[1][0]]
    if part[0] == "nil":
        return ("list", part[1][0])
    if part[0] == "fun":
        return ("to", part[1][1], own[0])
    if part[0] == "call":
        return own[0][2]
    # if, front and case are left: their second own part has their kind.
    return own[1]


# Kinds may be of any depth, and Python's own == on tuples has a bound there.
def same_kind(first, second):
    waiting = [(first, second)]
    while waiting:
        pair = waiting.pop()
        if pair[0][0] != pair[1][0]:
            return False
        waiting.extend(list(zip(pair[0][1:], pair[1][1:])))
    return True
