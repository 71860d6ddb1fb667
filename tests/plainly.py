"""Working out once more, written as plainly as points 12 to 16 tell it."""

from wellkind.errors import Stuck, Tired


class Meter:
    def __init__(self, steps):
        self.left = steps
        self.begun = []


def outcome(expr, names, steps):
    """("value", value), ("stuck",) or ("tired",), and the parts that were begun."""
    meter = Meter(steps)
    return told(lambda: value_of(expr, list(names), meter)), meter.begun


def outcome_of_applying(function, argument, steps):
    meter = Meter(steps)
    return told(lambda: apply(function, argument, meter)), meter.begun


def told(work):
    """What comes of some work, as something that can be compared."""
    try:
        return ("value", exact(work()))
    except Stuck:
        return ("stuck",)
    except Tired:
        return ("tired",)


def exact(value):
    """The value, but such that 1 and True are not equal, nor 0 and False."""
    if isinstance(value, list):
        return ["list"] + [exact(member) for member in value]
    if isinstance(value, tuple):
        return (type(value), len(value)) + tuple(exact(member) for member in value)
    return (type(value), value)


def value_of(part, names, meter):
    if meter.left == 0:
        raise Tired()
    meter.left -= 1
    meter.begun.append(part)
    word, marks, own = part
    if word in ("num", "truth"):
        return marks[0]
    if word == "nil":
        return []
    if word == "name":
        if marks[0] not in dict(names):
            raise Stuck()
        return dict(names)[marks[0]]
    if word == "fun":
        return ("fun", marks[0], own[0], names)
    first = value_of(own[0], names, meter)
    if word == "if":
        if type(first) is not bool:
            raise Stuck()
        return value_of(own[1] if first else own[2], names, meter)
    if word == "case":
        if type(first) is not list:
            raise Stuck()
        if not first:
            return value_of(own[1], names, meter)
        return value_of(own[2], names + [(marks[1], first[0]), (marks[2], first[1:])], meter)
    second = value_of(own[1], names, meter)
    if word == "call":
        return apply(first, second, meter)
    if word == "front":
        if type(second) is not list:
            raise Stuck()
        return [first] + second
    if type(first) is not int or type(second) is not int:
        raise Stuck()
    return first + second if word == "add" else first < second


def apply(function, argument, meter):
    if type(function) is not tuple:
        raise Stuck()
    return value_of(function[2], function[3] + [(function[1], argument)], meter)
