"""Values as they are held while something is worked out.

Whole numbers, True and False are held as they are, a list as a Chain, a
function's value as a Closure, the names known as Known, the last pair outermost.
So what is put in front of a list or behind the names known is put to the old
ones without copying them.

What is handed in is held as Given until it is looked into, one list at a time.
Nothing that is given back has a list in it that was handed in.
"""


# The empty list has None for its rest.
class Chain:
    def __init__(self, head, rest):
        self.head = head
        self.rest = rest
        self.outside = None


class Closure:
    def __init__(self, name, body, known):
        self.name = name
        self.body = body
        self.known = known
        self.outside = None


# One name and its value, ahead of it the others; None where there are none.
class Known:
    def __init__(self, name, value, others):
        self.name = name
        self.value = value
        self.others = others


class Given:
    def __init__(self, value):
        self.value = value
        self.inside = None


def taken(value):
    if isinstance(value, list) or is_function_value(value):
        return Given(value)
    return value


def is_function_value(value):
    return isinstance(value, tuple) and len(value) == 4 and value[0] == "fun"


def known_from(names):
    known = None
    for name, value in names:
        known = Known(name, taken(value), known)
    return known


# What was looked into once is kept with it, so that it is not copied again for
# each time that its name is asked for.
def opened(value):
    if not isinstance(value, Given):
        return value
    if value.inside is None:
        value.inside = looked_into(value.value)
    return value.inside


def looked_into(value):
    if not isinstance(value, list):
        return Closure(value[1], value[2], known_from(value[3]))
    chain = Chain(None, None)
    for member in reversed(value):
        chain = Chain(taken(member), chain)
    return chain


# Each list comes into being empty and is filled later, so that it doesn't
# matter how deep values lie in one another.
def given_back(value):
    waiting = []
    whole = outline(value, waiting)
    while waiting:
        pair = waiting.pop()
        if isinstance(pair[0], Chain):
            fill_with_members(pair[1], pair[0], waiting)
        else:
            fill_with_names(pair[1], pair[0].known, waiting)
    return whole


# What stands in many places of a value is made once: functions that know one
# another would else be copied twice as often for each more of them.
def outline(value, waiting):
    held = opened(value)
    if not isinstance(held, (Chain, Closure)):
        return held
    if held.outside is None:
        room = []
        waiting.append((held, room))
        held.outside = room
        if isinstance(held, Closure):
            held.outside = ("fun", held.name, held.body, room)
    return held.outside


def fill_with_members(room, chain, waiting):
    link = chain
    while link.rest is not None:
        room.append(outline(link.head, waiting))
        link = link.rest


def fill_with_names(room, known, waiting):
    pairs = []
    link = known
    while link is not None:
        pairs.append((link.name, outline(link.value, waiting)))
        link = link.others
    room.extend(list(reversed(pairs)))
