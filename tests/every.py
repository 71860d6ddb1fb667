"""Every small expression over a few words, names and kinds."""

from samples import NUM, TRUTH, add, call, case, choose, front, fun, less, listed, name, nil, num, to, truth
from wellkind.checker import fault


def all_of(size, leaves, binders, cases, keep):
    """The expressions of up to so many parts that are kept, and whose parts are."""
    told = [[], [leaf for leaf in leaves if keep(leaf)]]
    for total in range(2, size + 1):
        found = [fun(text, kind, body) for text, kind in binders for body in told[total - 1]]
        for left in range(1, total - 1):
            for first in told[left]:
                for second in told[total - 1 - left]:
                    found.extend([build(first, second) for build in (add, less, front, call)])
        for left in range(1, total - 2):
            for middle in range(1, total - 1 - left):
                for first in told[left]:
                    for second in told[middle]:
                        for third in told[total - 1 - left - middle]:
                            found.append(choose(first, second, third))
                            found.extend([case(*marks, first, second, third) for marks in cases])
        told.append([expr for expr in found if keep(expr)])
    return [expr for found in told for expr in found]


def any_expressions(size):
    leaves = [num(1), truth(False), name("x"), name("y"), nil(NUM)]
    return all_of(size, leaves, [("x", NUM)], [(NUM, "x", "y")], lambda expr: True)


# Whatever binds one of these names binds it with the same kind, so a part has
# the same scope, as far as that counts, as the whole.
SCOPE = [("b", TRUTH), ("n", NUM), ("l", listed(NUM)), ("f", to(NUM, NUM))]


def sound_expressions(size, bound):
    """Expressions without a fault in SCOPE; funs bind the names that are told."""
    leaves = [num(2)] + [name(text) for text, kind in SCOPE] + [nil(to(NUM, NUM))]
    return all_of(
        size, leaves, [pair for pair in SCOPE if pair[0] in bound],
        [(NUM, "n", "l"), (NUM, "l", "l"), (to(NUM, NUM), "f", "z")],
        lambda expr: fault(expr, SCOPE) is None,
    )
