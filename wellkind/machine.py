"""Working out: the value of an expression, or of a function's value applied.

run(expr, names, steps) and applied(function, argument, steps) give the value.
Both refuse with Tired where more than that many parts are to be begun, and with
Stuck where a part can't be worked out.

What is still to be done lies on a pile: pairs of a part and the names known, to
be begun or to be ended. The values that are worked out and not yet used lie on
another one.
"""

from wellkind.errors import Stuck, Tired
from wellkind.holding import Chain, Closure, Known, given_back, known_from, opened, taken

BEGIN = 0
END = 1


def run(expr, names, steps):
    return worked_out(expr, known_from(names), steps)


def applied(function, argument, steps):
    held = opened(taken(function))
    if not isinstance(held, Closure):
        raise Stuck("only a function's value can be applied")
    return worked_out(held.body, Known(held.name, taken(argument), held.known), steps)


def worked_out(expr, known, steps):
    waiting = [(BEGIN, expr, known)]
    done = []
    begun = 0
    while waiting:
        task = waiting.pop()
        if task[0] == END:
            end_part(task[1], task[2], waiting, done)
        elif begun < steps:
            begun += 1
            begin_part(task[1], task[2], waiting, done)
        else:
            raise Tired("there are no steps left")
    return given_back(done.pop())


def begin_part(part, known, waiting, done):
    word = part[0]
    if word == "num" or word == "truth":
        done.append(part[1][0])
    elif word == "nil":
        done.append(Chain(None, None))
    elif word == "name":
        done.append(value_of(part[1][0], known))
    elif word == "fun":
        done.append(Closure(part[1][0], part[2][0], known))
    else:
        waiting.append((END, part, known))
        if word != "if" and word != "case":
            waiting.append((BEGIN, part[2][1], known))
        waiting.append((BEGIN, part[2][0], known))


def value_of(name, known):
    link = known
    while link is not None:
        if link.name == name:
            return opened(link.value)
        link = link.others
    raise Stuck("a name has no value")


def end_part(part, known, waiting, done):
    last = done.pop()
    if part[0] == "if":
        waiting.append((BEGIN, chosen(part, last), known))
    elif part[0] == "case":
        waiting.append(parted(part, last, known))
    elif part[0] == "call":
        waiting.append(called(done.pop(), last))
    elif part[0] == "front":
        done.append(put_in_front(done.pop(), last))
    else:
        done.append(reckoned(part[0], done.pop(), last))


# True and False are asked for by `is`, since 1 and 0 are equal to them.
def chosen(part, condition):
    if condition is True:
        return part[2][1]
    if condition is False:
        return part[2][2]
    raise Stuck("an if needs True or False")


def parted(part, subject, known):
    if not isinstance(subject, Chain):
        raise Stuck("a case needs a list")
    if subject.rest is None:
        return (BEGIN, part[2][1], known)
    with_head = Known(part[1][1], subject.head, known)
    return (BEGIN, part[2][2], Known(part[1][2], subject.rest, with_head))


def called(function, argument):
    if not isinstance(function, Closure):
        raise Stuck("a call needs a function's value")
    return (BEGIN, function.body, Known(function.name, argument, function.known))


def put_in_front(member, others):
    if not isinstance(others, Chain):
        raise Stuck("a front needs a list")
    return Chain(member, others)


def reckoned(word, first, second):
    if not is_whole(first) or not is_whole(second):
        raise Stuck("add and less need two whole numbers")
    if word == "add":
        return first + second
    return first < second


# Python counts True and False among the whole numbers.
def is_whole(value):
    return isinstance(value, int) and not isinstance(value, bool)
