"""Nothing that is handed in is changed, and nothing of it is kept."""

import copy
import unittest

from plainly import exact
from samples import NUM, add, call, case, choose, front, fun, listed, name, nil, num, truth
from wellkind.machine import applied, run

ENOUGH = 1000
ONE = num(1)
NONE = nil(NUM)


def lists_in(value):
    """Every list that lies in a value or in names known, itself too."""
    found = []
    waiting = [value]
    while waiting:
        one = waiting.pop()
        if isinstance(one, list):
            found.append(one)
        if isinstance(one, (list, tuple)):
            waiting.extend(one)
    return found


def spoil(value):
    for one in lists_in(value):
        one.append(("spoilt", "spoilt"))
        one.reverse()


def handed_in():
    """Names with values of each sort, and lists within them in each way."""
    inner = ("fun", "y", name("y"), [("z", [1, 2])])
    return [
        ("n", 5),
        ("l", [1, 2, 3]),
        ("l", [3, 4]),
        ("d", [[1], [], [2, 3]]),
        ("f", ("fun", "x", name("l"), [("l", [7, 8]), ("g", inner)])),
        ("k", ("fun", "x", fun("y", NUM, name("x")), [("l", [[9]])])),
        ("fs", [inner, ("fun", "q", ONE, [("p", [[6]])])]),
    ]


EXPRESSIONS = [
    name("n"), name("l"), name("d"), name("f"), name("k"), name("fs"),
    fun("x", NUM, ONE),
    front(ONE, name("l")),
    front(name("l"), name("d")),
    front(name("l"), front(name("l"), nil(listed(NUM)))),
    front(name("f"), NONE),
    front(fun("x", NUM, ONE), front(fun("x", NUM, ONE), NONE)),
    choose(truth(True), name("l"), NONE),
    case(NUM, "h", "t", name("l"), NONE, name("t")),
    case(NUM, "h", "t", name("d"), NONE, name("h")),
    case(NUM, "h", "t", name("d"), NONE, name("t")),
    case(NUM, "h", "t", name("d"), NONE, fun("x", NUM, name("h"))),
    case(NUM, "h", "t", name("fs"), NONE, name("h")),
    case(NUM, "h", "t", name("fs"), NONE, call(name("h"), name("l"))),
    call(name("f"), ONE),
    call(name("k"), name("l")),
    call(call(name("k"), name("d")), ONE),
    call(fun("x", NUM, front(name("x"), name("x"))), name("l")),
]


class Run(unittest.TestCase):
    def test_nothing_handed_in_is_changed(self):
        for expr in EXPRESSIONS + [add(name("l"), ONE), call(ONE, name("l")), name("nowhere")]:
            for steps in [0, 1, 3, ENOUGH]:
                names = handed_in()
                try:
                    run(expr, names, steps)
                except ValueError:
                    pass
                self.assertEqual(exact(names), exact(handed_in()))

    def test_changes_to_names_behind_the_call(self):
        for expr in EXPRESSIONS:
            names = handed_in()
            value = run(expr, names, ENOUGH)
            told = copy.deepcopy(value)
            spoil(names)
            self.assertEqual(exact(value), exact(told))

    def test_changes_to_a_value_given_back(self):
        for expr in EXPRESSIONS:
            names = handed_in()
            told = exact(run(expr, names, ENOUGH))
            spoil(run(expr, names, ENOUGH))
            self.assertEqual(exact(names), exact(handed_in()))
            self.assertEqual(exact(run(expr, names, ENOUGH)), told)

    def test_no_list_is_handed_on(self):
        for expr in EXPRESSIONS:
            names = handed_in()
            kept = {id(one) for one in lists_in(names)}
            self.assertFalse(kept & {id(one) for one in lists_in(run(expr, names, ENOUGH))}, expr)

    def test_a_list_of_names_that_grows(self):
        names = [("x", 1)]
        first = run(fun("y", NUM, name("x")), names, 1)
        names.append(("x", 2))
        second = run(fun("y", NUM, name("x")), names, 1)
        names.append(("x", 3))
        self.assertEqual(first, ("fun", "y", name("x"), [("x", 1)]))
        self.assertEqual(second, ("fun", "y", name("x"), [("x", 1), ("x", 2)]))
        self.assertEqual([applied(first, 0, 1), applied(second, 0, 1)], [1, 2])

    def test_an_empty_list_is_each_time_a_new_one(self):
        first = run(NONE, [], 1)
        first.append(1)
        self.assertEqual(run(NONE, [], 1), [])
        made = run(fun("x", NUM, ONE), [], 1)
        made[3].append(("x", 1))
        self.assertEqual(run(fun("x", NUM, ONE), [], 1)[3], [])


class Applied(unittest.TestCase):
    def functions(self):
        names = handed_in()
        return [
            ("fun", "x", name("x"), names),
            ("fun", "x", name("d"), names),
            ("fun", "x", front(name("x"), front(name("l"), NONE)), names),
            ("fun", "x", fun("y", NUM, name("x")), names),
            ("fun", "x", case(NUM, "h", "t", name("x"), name("l"), name("t")), names),
            ("fun", "x", case(NUM, "h", "t", name("x"), name("l"), fun("y", NUM, ONE)), names),
            ("fun", "x", call(name("k"), name("x")), names),
        ]

    def arguments(self):
        return [[], [1, 2], [[1], [2, 3]], [("fun", "a", ONE, [("b", [1])])]]

    def test_nothing_handed_in_is_changed(self):
        for number in range(len(self.functions())):
            for which in range(len(self.arguments())):
                function, argument = self.functions()[number], self.arguments()[which]
                applied(function, argument, ENOUGH)
                self.assertEqual(exact(function), exact(self.functions()[number]))
                self.assertEqual(exact(argument), exact(self.arguments()[which]))

    def test_changes_behind_the_call(self):
        for function in self.functions():
            for argument in self.arguments():
                function = copy.deepcopy(function)
                value = applied(function, argument, ENOUGH)
                told = copy.deepcopy(value)
                kept = {id(one) for one in lists_in(function) + lists_in(argument)}
                self.assertFalse(kept & {id(one) for one in lists_in(value)})
                spoil(function)
                spoil(argument)
                self.assertEqual(exact(value), exact(told))

    def test_a_function_given_back_is_not_kept_either(self):
        made = run(fun("x", NUM, fun("y", NUM, name("l"))), [("l", [1])], 1)
        inner = applied(made, [2], 1)
        spoil(made)
        self.assertEqual(inner, ("fun", "y", name("l"), [("l", [1]), ("x", [2])]))


class ValuesInOneAnother(unittest.TestCase):
    def test_functions_that_know_one_another(self):
        # Written out in full, the last one would hold more pairs than can be.
        names = [letter + other for letter in "pqrst" for other in "abcdefghijklmnopqrst"]
        expr = fun("z", NUM, name("z"))
        for text in reversed(names):
            expr = call(fun(text, NUM, expr), fun("x", NUM, add(name("x"), ONE)))
        made = run(expr, [], ENOUGH)
        self.assertEqual([pair[0] for pair in made[3]], names)
        for number, pair in enumerate(made[3]):
            self.assertEqual(pair[1][:3], ("fun", "x", add(name("x"), ONE)))
            self.assertEqual([other[0] for other in pair[1][3]], names[:number])
        self.assertEqual(applied(made, 5, 1), 5)
        self.assertEqual(run(call(name("f"), ONE), [("f", made)], ENOUGH), 1)

    def test_lists_that_lie_twice_in_one_another(self):
        expr = name("a")
        for level in range(100):
            expr = call(fun("a", NUM, expr), front(name("a"), front(name("a"), NONE)))
        value = run(expr, [("a", [])], ENOUGH)
        for level in range(100):
            self.assertEqual(len(value), 2)
            value = value[level % 2]
        self.assertEqual(value, [])

    def test_values_of_great_depth(self):
        # Puts a list into a list, as often as it is told.
        again = call(call(call(name("f"), name("f")), add(name("n"), num(-1))), front(name("l"), NONE))
        wrap = fun("f", NUM, fun("n", NUM, fun("l", NUM, choose(
            call(fun("m", NUM, ("less", (), (name("m"), ONE))), name("n")), name("l"), again))))
        value = run(call(call(call(wrap, wrap), num(5000)), NONE), [], 10 ** 6)
        value = run(name("l"), [("l", value)], 1)
        depth = 0
        while value:
            self.assertEqual(len(value), 1)
            value = value[0]
            depth += 1
        self.assertEqual(depth, 5000)

    def test_functions_within_functions_of_great_depth(self):
        names = []
        for level in range(5000):
            names = [("f", ("fun", "x", name("f"), names))]
        value = run(name("f"), names, 1)
        for level in range(5000):
            self.assertEqual(value[:3], ("fun", "x", name("f")))
            if level < 4999:
                value = value[3][0][1]
        self.assertEqual(value[3], [])


if __name__ == "__main__":
    unittest.main()
