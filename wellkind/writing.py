"""Writing: the line of an expression, and where each part stands in it.

shown(expr) gives the line, span(expr, place) the stretch of a part.

A line is put together of pieces: pairs of a word that says what the piece is,
and a text, a name, a kind or a part.
"""

from wellkind.parts import own_part

# What follows the word in the brackets. Marks and own parts stand there in
# their order, so no more than this is needed to write and to read them.
FORMS = {
    "list": ("kind",),
    "to": ("kind", "kind"),
    "add": ("part", "part"),
    "less": ("part", "part"),
    "if": ("part", "part", "part"),
    "nil": ("kind",),
    "front": ("part", "part"),
    "case": ("kind", "part", "part", "name", "name", "part"),
    "fun": ("name", "kind", "part"),
    "call": ("part", "part"),
}


def shown(expr):
    return spelled([("part", expr)])


def span(expr, place):
    start = 0
    part = expr
    for number in place:
        below = own_part(part, number)
        start += len(spelled(ahead_of(part, number)))
        part = below
    return (start, start + len(shown(part)))


# None where the word is not one that stands first in brackets.
def form_of(word):
    return FORMS.get(word)


def spelled(pieces):
    texts = []
    waiting = list(reversed(pieces))
    while waiting:
        piece = waiting.pop()
        if piece[0] == "part":
            waiting.extend(list(reversed(pieces_of_part(piece[1]))))
        elif piece[0] == "kind":
            waiting.extend(list(reversed(pieces_of_kind(piece[1]))))
        else:
            texts.append(piece[1])
    return "".join(texts)


# The pieces of a part that stand ahead of one of its own parts.
def ahead_of(part, number):
    pieces = pieces_of_part(part)
    own = [index for index, piece in enumerate(pieces) if piece[0] == "part"]
    return pieces[:own[number]]


def pieces_of_part(part):
    if part[0] == "num":
        return [("text", figures_of(part[1][0]))]
    if part[0] == "truth":
        return [("text", "yes" if part[1][0] else "no")]
    if part[0] == "name":
        return [("name", part[1][0])]
    return in_brackets(part[0], part[1], part[2])


# Python's own str has a bound on how many figures there may be.
def figures_of(number):
    left = abs(number)
    figures = [str(left % 10)]
    while left > 9:
        left = left // 10
        figures.append(str(left % 10))
    sign = "-" if number < 0 else ""
    return sign + "".join(list(reversed(figures)))


def pieces_of_kind(kind):
    if len(kind) == 1:
        return [("text", kind[0])]
    return in_brackets(kind[0], kind[1:], ())


def in_brackets(word, marks, own):
    marks_left = list(marks)
    own_left = list(own)
    pieces = [("text", "(" + word)]
    for due in FORMS[word]:
        pieces.append(("text", " "))
        if due == "part":
            pieces.append((due, own_left.pop(0)))
        else:
            pieces.append((due, marks_left.pop(0)))
    pieces.append(("text", ")"))
    return pieces
