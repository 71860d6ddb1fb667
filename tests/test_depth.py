import unittest

from samples import NUM, TRUTH, add, call, case, choose, front, fun, less, listed, name, nil, num, to, truth
from wellkind.checker import fault, kind_of, notes
from wellkind.errors import BadKind, NoLine, NoPart, Stuck, Tired
from wellkind.machine import applied, run
from wellkind.parts import part_at, places, with_part
from wellkind.reading import pointed, read
from wellkind.writing import shown, span

# The bound of point 1, and somewhat beyond it.
DEPTHS = [200, 260]


def along_first(depth, last):
    expr = last
    for level in range(depth):
        expr = add(expr, num(level))
    return expr


def along_last(depth, last):
    expr = last
    for level in range(depth):
        expr = add(num(level), expr)
    return expr


def places_along(step, beside, depth):
    """The places of such an expression: those of the deepest part first."""
    if step == 0:
        told = [(0,) * depth]
        for level in range(depth - 1, -1, -1):
            told.extend([(0,) * level + (beside,), (0,) * level])
        return told
    told = [(step,) * level + (beside,) for level in range(depth)]
    return told + [(step,) * level for level in range(depth, -1, -1)]


SHAPES = [(along_first, 0, 1), (along_last, 1, 0)]


class DeepParts(unittest.TestCase):
    def each(self):
        return [shape + (depth,) for shape in SHAPES for depth in DEPTHS]

    def test_part_at(self):
        for build, step, beside, depth in self.each():
            expr = build(depth, name("x"))
            self.assertEqual(part_at(expr, (step,) * depth), name("x"))
            self.assertEqual(part_at(expr, (step,) * (depth - 1) + (beside,)), num(0))
            for wrong in [0, -1, 2]:
                with self.assertRaises(NoPart):
                    part_at(expr, (step,) * depth + (wrong,))

    def test_with_part(self):
        for build, step, beside, depth in self.each():
            expr = build(depth, name("x"))
            changed = with_part(expr, (step,) * depth, truth(False))
            self.assertTrue(changed == build(depth, truth(False)))
            self.assertTrue(expr == build(depth, name("x")))
            with self.assertRaises(NoPart):
                with_part(expr, (step,) * depth + (0,), num(1))

    def test_places(self):
        for build, step, beside, depth in self.each():
            self.assertTrue(places(build(depth, num(0))) == places_along(step, beside, depth))

    def test_notes(self):
        for build, step, beside, depth in self.each():
            told = [(place, NUM) for place in places_along(step, beside, depth)]
            self.assertTrue(notes(build(depth, num(0)), []) == told)

    def test_notes_up_to_a_deep_fault(self):
        for build, step, beside, depth in self.each():
            told = notes(build(depth, name("x")), [])
            order = places_along(step, beside, depth)
            ahead = order[:order.index((step,) * depth)]
            self.assertTrue(told == [(place, NUM) for place in ahead])

    def test_fault(self):
        for build, step, beside, depth in self.each():
            self.assertIsNone(fault(build(depth, num(0)), []))
            self.assertEqual(fault(build(depth, name("x")), []), ((step,) * depth, None, None))
            self.assertEqual(fault(build(depth, truth(True)), []), ((step,) * depth, NUM, TRUTH))

    def test_kind_of(self):
        for build, step, beside, depth in self.each():
            self.assertEqual(kind_of(build(depth, num(0)), []), NUM)
            self.assertEqual(kind_of(build(depth, name("x")), [("x", NUM)]), NUM)
            with self.assertRaises(BadKind):
                kind_of(build(depth, name("x")), [])


class DeepKinds(unittest.TestCase):
    def nested_funs(self, depth, text):
        expr = name(text)
        for level in range(depth):
            expr = fun("x", NUM, expr)
        return expr

    def test_funs_in_funs(self):
        for depth in DEPTHS:
            kind = NUM
            for level in range(depth):
                kind = to(NUM, kind)
            expr = self.nested_funs(depth, "x")
            self.assertTrue(kind_of(expr, []) == kind)
            self.assertTrue(kind_of(choose(truth(True), expr, expr), []) == kind)
            self.assertEqual(fault(self.nested_funs(depth, "y"), []), ((0,) * depth, None, None))

    def test_calls_of_calls(self):
        for depth in DEPTHS:
            kind = TRUTH
            for level in range(depth):
                kind = to(NUM, kind)
            expr = name("f")
            for level in range(depth):
                expr = call(expr, num(level))
            self.assertEqual(kind_of(expr, [("f", kind)]), TRUTH)
            self.assertEqual(fault(call(expr, num(0)), [("f", kind)]), ((0,), None, TRUTH))

    def deep_list(self, depth, kind):
        for level in range(depth):
            kind = listed(kind)
        return kind

    def test_kinds_of_any_depth_are_told_apart(self):
        depth = 5000
        same = front(nil(self.deep_list(depth, NUM)), nil(self.deep_list(depth + 1, NUM)))
        self.assertIsNone(fault(same, []))
        for other in [self.deep_list(depth + 1, TRUTH), self.deep_list(depth, NUM)]:
            told = fault(front(nil(self.deep_list(depth, NUM)), nil(other)), [])
            self.assertEqual(told[0], (1,))

    def test_kinds_of_any_depth_are_written_and_read(self):
        depth = 5000
        line = "(nil " + "(list " * depth + "num" + ")" * (depth + 1)
        self.assertTrue(shown(nil(self.deep_list(depth, NUM))) == line)
        self.assertTrue(shown(read(line)) == line)
        self.assertEqual(span(fun("x", self.deep_list(depth, NUM), num(1)), (0,)), (7 * depth + 11, 7 * depth + 12))


# One more part around an expression: along each own part that a word has, and
# what comes of it at the end, told by the depth.
AROUND = [
    (num(0), lambda inner: add(inner, num(1)), lambda depth: depth),
    (num(0), lambda inner: add(num(1), inner), lambda depth: depth),
    (truth(True), lambda inner: choose(inner, truth(False), truth(True)), lambda depth: depth % 2 == 0),
    (num(5), lambda inner: choose(truth(True), inner, num(6)), lambda depth: 5),
    (num(5), lambda inner: choose(truth(False), num(6), inner), lambda depth: 5),
    (nil(NUM), lambda inner: front(num(3), inner), lambda depth: [3] * depth),
    (front(num(3), nil(NUM)), lambda inner: case(NUM, "h", "t", inner, nil(NUM), name("t")), lambda depth: []),
    (num(5), lambda inner: case(NUM, "h", "t", nil(NUM), inner, num(6)), lambda depth: 5),
    (num(5), lambda inner: case(NUM, "h", "t", name("l"), num(6), inner), lambda depth: 5),
    (num(5), lambda inner: call(fun("x", NUM, inner), num(6)), lambda depth: 5),
    (num(5), lambda inner: call(fun("x", NUM, add(name("x"), num(2))), inner), lambda depth: 5 + 2 * depth),
]


def deep(depth, last, around):
    expr = last
    for level in range(depth):
        expr = around(expr)
    return expr


def same(first, second):
    """As ==, which has a bound of its own for tuples in tuples."""
    waiting = [(first, second)]
    while waiting:
        one, other = waiting.pop()
        if one[:2] != other[:2] or len(one) != len(other) or len(one[2]) != len(other[2]):
            return False
        waiting.extend(zip(one[2], other[2]))
    return True


class DeepWork(unittest.TestCase):
    def assert_steps(self, expr, names, begun, value):
        self.assertEqual(run(expr, names, begun), value)
        with self.assertRaises(Tired):
            run(expr, names, begun - 1)

    def test_sums(self):
        for build in [along_first, along_last]:
            for depth in DEPTHS:
                total = depth * (depth - 1) // 2
                self.assert_steps(build(depth, num(0)), [], 2 * depth + 1, total)
                self.assert_steps(build(depth, name("x")), [("x", 7)], 2 * depth + 1, total + 7)
                for stuck in [name("x"), truth(True)]:
                    with self.assertRaises(Stuck):
                        run(build(depth, stuck), [], 2 * depth + 1)
                body = ("fun", "x", build(depth, name("x")), [])
                self.assertEqual(applied(body, 1, 2 * depth + 1), total + 1)
                with self.assertRaises(Tired):
                    applied(body, 1, 2 * depth)

    def test_each_word(self):
        for depth in DEPTHS:
            for last, around, value in AROUND:
                self.assertEqual(run(deep(depth, last, around), [("l", [1])], 10 ** 4), value(depth))

    def test_a_list_that_lies_deep_in_lists(self):
        for depth in DEPTHS:
            value = run(deep(depth, nil(NUM), lambda inner: front(inner, nil(NUM))), [], 10 ** 4)
            for level in range(depth):
                self.assertEqual(len(value), 1)
                value = value[0]
            self.assertEqual(value, [])

    def test_functions_in_functions(self):
        for depth in DEPTHS:
            expr = add(name("x"), name("y"))
            for level in range(depth):
                expr = fun("x", NUM, expr)
            for level in range(depth):
                expr = call(expr, num(level))
            self.assertEqual(run(expr, [("y", 1000)], 10 ** 4), depth + 999)

    def test_values_with_deep_bodies(self):
        for depth in DEPTHS:
            body = along_last(depth, name("x"))
            made = run(fun("x", NUM, body), [("y", 1)], 1)
            self.assertTrue(made == ("fun", "x", body, [("y", 1)]))


class DeepLines(unittest.TestCase):
    def lines(self, depth):
        firsts = "(add " * depth + "xyz" + "".join(f" {level})" for level in range(depth))
        lasts = "".join(f"(add {level} " for level in reversed(range(depth))) + "xyz" + ")" * depth
        return [(along_first, 0, firsts), (along_last, 1, lasts)]

    def test_shown_and_read(self):
        for depth in DEPTHS:
            for build, step, line in self.lines(depth):
                expr = build(depth, name("xyz"))
                self.assertTrue(shown(expr) == line)
                self.assertTrue(read(line) == expr)
                for wrong in [line + ")", line[:-1], line.replace("xyz", ""), line.replace("xyz", "add")]:
                    with self.assertRaises(NoLine):
                        read(wrong)
                    with self.assertRaises(NoLine):
                        pointed(wrong)

    def test_span_and_pointed(self):
        for depth in DEPTHS:
            for build, step, line in self.lines(depth):
                start = line.index("xyz")
                expr = build(depth, name("xyz"))
                self.assertEqual(span(expr, (step,) * depth), (start, start + 3))
                self.assertEqual(span(expr, ()), (0, len(line)))
                self.assertEqual(pointed(line), (start, start + 3))
                self.assertEqual(pointed(line.replace("xyz", "yes")), (start, start + 3))
                self.assertIsNone(pointed(line.replace("xyz", "123")))

    def test_each_word(self):
        for depth in DEPTHS:
            for last, around, value in AROUND:
                expr = deep(depth, last, around)
                self.assertTrue(same(read(shown(expr)), expr))
                self.assertEqual(span(expr, ()), (0, len(shown(expr))))


if __name__ == "__main__":
    unittest.main()
