"""The parts of an expression and the places that lead to them.

part_at(expr, place) gives a part, with_part(expr, place, part) the expression
with another part there, places(expr) the places of all parts, the whole last.

Nothing here calls itself: how deep an expression may be doesn't hang on how
deep calls may go.
"""

from wellkind.errors import NoPart


def part_at(expr, place):
    part = expr
    for number in place:
        part = own_part(part, number)
    return part


def with_part(expr, place, part):
    wholes = []
    below = expr
    for number in place:
        wholes.append(below)
        below = own_part(below, number)
    changed = part
    for whole, number in reversed(list(zip(wholes, place))):
        changed = with_own_part(whole, number, changed)
    return changed


def places(expr):
    return [pair[0] for pair in in_order(expr)]


# Pairs of a place and its part. Taken backwards, the order is a whole ahead of
# its own parts, the last of them first: a plain pile of what is still to be
# done gives that, with no need to come back to a whole.
def in_order(expr):
    waiting = [((), expr)]
    backwards = []
    while waiting:
        pair = waiting.pop()
        backwards.append(pair)
        for number, own in enumerate(pair[1][2]):
            waiting.append((pair[0] + (number,), own))
    return list(reversed(backwards))


# The bounds are asked for ahead of the index, since Python would count a
# number below nought from the end.
def own_part(part, number):
    if number < 0 or number >= len(part[2]):
        raise NoPart("the place leads nowhere")
    return part[2][number]


def with_own_part(whole, number, part):
    own = whole[2]
    return (whole[0], whole[1], own[:number] + (part,) + own[number + 1:])
