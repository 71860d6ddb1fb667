"""What is promised over the whole program, over every small expression."""

import unittest

from every import SCOPE, any_expressions, sound_expressions
from plainly import exact, outcome, outcome_of_applying, told
from samples import NUM, TRUTH, add, call, choose, fun, less, listed, name, num, to
from wellkind.checker import fault, kind_of
from wellkind.errors import Tired
from wellkind.machine import applied, run
from wellkind.parts import part_at, places
from wellkind.reading import pointed, read
from wellkind.writing import shown, span

ENOUGH = 1000
FEW = [0, 3]


class AsItIsPlainlyTold(unittest.TestCase):
    def test_run(self):
        function = ("fun", "x", add(name("x"), name("y")), [("y", 10), ("y", 20)])
        for names in [[], [("y", [3])], [("x", function), ("y", True)], [("x", 0), ("y", 1), ("x", [])]]:
            for expr in any_expressions(4):
                end, begun = outcome(expr, names, ENOUGH)
                for steps in range(len(begun)):
                    self.assertEqual(told(lambda: run(expr, names, steps)), ("tired",))
                for steps in [len(begun), len(begun) + 1]:
                    self.assertEqual(told(lambda: run(expr, names, steps)), end)

    def test_run_with_somewhat_bigger_expressions(self):
        names = [("y", [3, False])]
        for expr in any_expressions(6):
            end, begun = outcome(expr, names, ENOUGH)
            self.assertEqual(told(lambda: run(expr, names, len(begun))), end)
            self.assertEqual(told(lambda: run(expr, names, len(begun) - 1)), ("tired",))

    def test_applied(self):
        for argument in [1, True, [4], ("fun", "y", name("x"), [("x", [])])]:
            for body in any_expressions(4):
                function = ("fun", "x", body, [("x", 5), ("y", [6, []])])
                end, begun = outcome_of_applying(function, argument, ENOUGH)
                for steps in range(len(begun)):
                    self.assertEqual(told(lambda: applied(function, argument, steps)), ("tired",))
                self.assertEqual(told(lambda: applied(function, argument, len(begun))), end)


# Values of each kind that there are names of, made from outside.
TWICE = ("fun", "x", add(name("x"), name("x")), [])
LOWER = ("fun", "n", add(name("n"), name("k")), [("n", True), ("k", 5), ("k", -1)])


def values_of(kind):
    if kind == NUM:
        return [-1, 0, 3]
    if kind == TRUTH:
        return [True, False]
    if kind[0] == "list":
        members = values_of(kind[1])
        return [[], members, members[:1]]
    made = [("fun", "q", name("v"), [("v", value)]) for value in values_of(kind[2])]
    return made + ([TWICE, LOWER] if kind == to(NUM, NUM) else [])


class Sound(unittest.TestCase):
    def assert_of_kind(self, value, kind):
        if kind == NUM:
            self.assertIs(type(value), int)
        elif kind == TRUTH:
            self.assertIs(type(value), bool)
        elif kind[0] == "list":
            self.assertIs(type(value), list)
            for member in value:
                self.assert_of_kind(member, kind[1])
        else:
            self.assertEqual((type(value), len(value), value[0]), (tuple, 4, "fun"))
            for argument in values_of(kind[1])[:2]:
                given = self.assert_same_or_tired(lambda steps: applied(value, argument, steps))
                self.assert_of_kind(given, kind[2])

    def assert_same_or_tired(self, work):
        """The value with enough steps; with fewer it is the same or there is none."""
        value = work(ENOUGH)
        for steps in FEW:
            try:
                self.assertEqual(work(steps), value)
            except Tired:
                pass
        return value

    def assert_sound(self, exprs):
        first = [(text, values_of(kind)[0]) for text, kind in SCOPE]
        last = [(text, values_of(kind)[-1]) for text, kind in SCOPE]
        middle = [(text, values_of(kind)[1]) for text, kind in SCOPE]
        for expr in exprs:
            kind = kind_of(expr, SCOPE)
            for names in [middle, last, middle + first]:
                self.assert_of_kind(self.assert_same_or_tired(lambda steps: run(expr, names, steps)), kind)

    def test_with_many_sorts_of_functions(self):
        self.assert_sound(sound_expressions(4, "bnlf"))

    def test_with_few_sorts_of_functions(self):
        self.assert_sound(sound_expressions(6, "n"))

    def test_functions_of_functions(self):
        twice = fun("f", to(NUM, NUM), fun("n", NUM, call(name("f"), call(name("f"), name("n")))))
        expr = call(twice, call(twice, call(twice, fun("n", NUM, add(name("n"), num(1))))))
        kind = kind_of(expr, [])
        self.assertEqual(kind, to(NUM, NUM))
        value = run(expr, [], ENOUGH)
        self.assert_of_kind(value, kind)
        self.assertEqual(applied(value, 100, ENOUGH), 108)
        least = fun("a", NUM, fun("b", NUM, choose(less(name("a"), name("b")), name("a"), name("b"))))
        self.assert_of_kind(run(least, [], 1), kind_of(least, []))

    def test_every_value_handed_in_is_of_its_kind(self):
        for kind in [NUM, TRUTH, listed(NUM), to(NUM, NUM), listed(to(NUM, NUM))]:
            for value in values_of(kind):
                self.assert_of_kind(value, kind)


class WrittenAndRead(unittest.TestCase):
    def test_back_and_forth(self):
        for expr in any_expressions(5) + sound_expressions(5, "bnlf"):
            self.assertEqual(exact(read(shown(expr))), exact(expr))

    def test_no_two_are_written_alike(self):
        lines = [shown(expr) for expr in any_expressions(5)]
        self.assertEqual(len(set(lines)), len(lines))

    def test_stretches(self):
        for expr in any_expressions(4) + sound_expressions(4, "bnlf"):
            line = shown(expr)
            for place in places(expr):
                stretch = span(expr, place)
                self.assertEqual(line[stretch[0]:stretch[1]], shown(part_at(expr, place)))

    def test_pointed(self):
        for expr in any_expressions(4) + sound_expressions(4, "bnlf"):
            first = fault(expr, [])
            stretch = None if first is None else span(expr, first[0])
            self.assertEqual(pointed(shown(expr)), stretch)


if __name__ == "__main__":
    unittest.main()
