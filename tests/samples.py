"""Short ways to write kinds and expressions in the tests."""

NUM = ("num",)
TRUTH = ("truth",)


def listed(kind):
    return ("list", kind)


def to(taken, given):
    return ("to", taken, given)


def num(number):
    return ("num", (number,), ())


def truth(value):
    return ("truth", (value,), ())


def name(text):
    return ("name", (text,), ())


def add(first, second):
    return ("add", (), (first, second))


def less(first, second):
    return ("less", (), (first, second))


def choose(condition, first, second):
    return ("if", (), (condition, first, second))


def nil(kind):
    return ("nil", (kind,), ())


def front(first, rest):
    return ("front", (), (first, rest))


def case(kind, head, tail, subject, empty, full):
    return ("case", (kind, head, tail), (subject, empty, full))


def fun(text, kind, body):
    return ("fun", (text, kind), (body,))


def call(function, argument):
    return ("call", (), (function, argument))


def one_of_each():
    """Each word of the language, with the number of own parts it has."""
    one = num(1)
    two = num(2)
    three = num(3)
    return [
        (one, 0),
        (truth(True), 0),
        (name("x"), 0),
        (add(one, two), 2),
        (less(one, two), 2),
        (choose(one, two, three), 3),
        (nil(NUM), 0),
        (front(one, two), 2),
        (case(NUM, "h", "t", one, two, three), 3),
        (fun("x", NUM, one), 1),
        (call(one, two), 2),
    ]
