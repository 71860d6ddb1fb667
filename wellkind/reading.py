"""Reading: the expression that a line is written for.

read(line) gives the expression, pointed(line) the stretch of its first fault or
None. Both refuse with NoLine what is no line.
"""

from wellkind.checker import fault
from wellkind.errors import NoLine
from wellkind.writing import form_of, shown, span

LETTERS = "abcdefghijklmnopqrstuvwxyz"
FIGURES = "0123456789"


# Blanks and noughts too many or too few are not looked for while reading: a
# line is what the expression is written as, and no other text is.
def read(line):
    expr = gathered(line)
    if shown(expr) != line:
        raise NoLine("the text is not written as lines are")
    return expr


def pointed(line):
    expr = read(line)
    told = fault(expr, [])
    if told is None:
        return None
    return span(expr, told[0])


# Each bracket that is open has a list of what was found in it so far; the first
# list is for what stands in no bracket.
def gathered(line):
    groups = [[]]
    for token in tokens(line):
        if token == "(":
            groups.append([])
        elif token == ")":
            group = groups.pop()
            if not groups:
                raise NoLine("a bracket is closed that was never opened")
            groups[-1].append(from_brackets(group))
        else:
            groups[-1].append(from_word(token))
    if len(groups) != 1 or len(groups[0]) != 1:
        raise NoLine("a line is one expression, and all its brackets are closed")
    return as_due("part", groups[0][0])


def tokens(line):
    spread = line.replace("(", " ( ").replace(")", " ) ")
    return [token for token in spread.split(" ") if token != ""]


# What is found is told as a pair: "word", "kind" or "part", and the word, the
# kind or the part.
def from_word(token):
    if token == "num" or token == "truth":
        return ("kind", (token,))
    if token == "yes" or token == "no":
        return ("part", ("truth", (token == "yes",), ()))
    if form_of(token) is not None:
        return ("word", token)
    if consists_of(token, LETTERS):
        return ("part", ("name", (token,), ()))
    if consists_of(token, FIGURES):
        return ("part", ("num", (number_of(token),), ()))
    if token[0] == "-" and consists_of(token[1:], FIGURES):
        return ("part", ("num", (-number_of(token[1:]),), ()))
    raise NoLine("there is a word that is no name and no number")


def consists_of(token, signs):
    return token != "" and all([sign in signs for sign in token])


# Python's own int has a bound on how many figures there may be.
def number_of(figures):
    number = 0
    for figure in figures:
        number = number * 10 + FIGURES.index(figure)
    return number


def from_brackets(group):
    if not group or group[0][0] != "word":
        raise NoLine("a bracket doesn't begin with a word for it")
    word = group[0][1]
    form = form_of(word)
    if len(group) != len(form) + 1:
        raise NoLine("a bracket holds too much or too little")
    marks = []
    own = []
    for due, found in zip(form, group[1:]):
        if due == "part":
            own.append(as_due(due, found))
        else:
            marks.append(as_due(due, found))
    if word == "list" or word == "to":
        return ("kind", (word,) + tuple(marks))
    return ("part", (word, tuple(marks), tuple(own)))


# A name alone is read as a part, also where no part is due but the name.
def as_due(due, found):
    if due == found[0]:
        return found[1]
    if due == "name" and found[0] == "part" and found[1][0] == "name":
        return found[1][1][0]
    raise NoLine("something else stands where a part, a kind or a name is due")
