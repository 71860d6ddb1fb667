import unittest

from samples import NUM, TRUTH, add, call, choose, front, fun, listed, name, nil, num, to, truth
from wellkind.checker import fault, kind_of, notes
from wellkind.errors import BadKind, NoPart
from wellkind.parts import part_at, places, with_part

# The bound of point 1, and somewhat beyond it.
DEPTHS = [200, 260]


def along_first(depth, last):
    expr = last
    for level in range(depth):
        expr = add(expr, num(level))
    return expr


def along_last(depth, last):
    expr = last
    for level in range(depth):
        expr = add(num(level), expr)
    return expr


def places_along(step, beside, depth):
    """The places of such an expression: those of the deepest part first."""
    if step == 0:
        told = [(0,) * depth]
        for level in range(depth - 1, -1, -1):
            told.extend([(0,) * level + (beside,), (0,) * level])
        return told
    told = [(step,) * level + (beside,) for level in range(depth)]
    return told + [(step,) * level for level in range(depth, -1, -1)]


SHAPES = [(along_first, 0, 1), (along_last, 1, 0)]


class DeepParts(unittest.TestCase):
    def each(self):
        return [shape + (depth,) for shape in SHAPES for depth in DEPTHS]

    def test_part_at(self):
        for build, step, beside, depth in self.each():
            expr = build(depth, name("x"))
            self.assertEqual(part_at(expr, (step,) * depth), name("x"))
            self.assertEqual(part_at(expr, (step,) * (depth - 1) + (beside,)), num(0))
            for wrong in [0, -1, 2]:
                with self.assertRaises(NoPart):
                    part_at(expr, (step,) * depth + (wrong,))

    def test_with_part(self):
        for build, step, beside, depth in self.each():
            expr = build(depth, name("x"))
            changed = with_part(expr, (step,) * depth, truth(False))
            self.assertTrue(changed == build(depth, truth(False)))
            self.assertTrue(expr == build(depth, name("x")))
            with self.assertRaises(NoPart):
                with_part(expr, (step,) * depth + (0,), num(1))

    def test_places(self):
        for build, step, beside, depth in self.each():
            self.assertTrue(places(build(depth, num(0))) == places_along(step, beside, depth))

    def test_notes(self):
        for build, step, beside, depth in self.each():
            told = [(place, NUM) for place in places_along(step, beside, depth)]
            self.assertTrue(notes(build(depth, num(0)), []) == told)

    def test_notes_up_to_a_deep_fault(self):
        for build, step, beside, depth in self.each():
            told = notes(build(depth, name("x")), [])
            order = places_along(step, beside, depth)
            ahead = order[:order.index((step,) * depth)]
            self.assertTrue(told == [(place, NUM) for place in ahead])

    def test_fault(self):
        for build, step, beside, depth in self.each():
            self.assertIsNone(fault(build(depth, num(0)), []))
            self.assertEqual(fault(build(depth, name("x")), []), ((step,) * depth, None, None))
            self.assertEqual(fault(build(depth, truth(True)), []), ((step,) * depth, NUM, TRUTH))

    def test_kind_of(self):
        for build, step, beside, depth in self.each():
            self.assertEqual(kind_of(build(depth, num(0)), []), NUM)
            self.assertEqual(kind_of(build(depth, name("x")), [("x", NUM)]), NUM)
            with self.assertRaises(BadKind):
                kind_of(build(depth, name("x")), [])


class DeepKinds(unittest.TestCase):
    def nested_funs(self, depth, text):
        expr = name(text)
        for level in range(depth):
            expr = fun("x", NUM, expr)
        return expr

    def test_funs_in_funs(self):
        for depth in DEPTHS:
            kind = NUM
            for level in range(depth):
                kind = to(NUM, kind)
            expr = self.nested_funs(depth, "x")
            self.assertTrue(kind_of(expr, []) == kind)
            self.assertTrue(kind_of(choose(truth(True), expr, expr), []) == kind)
            self.assertEqual(fault(self.nested_funs(depth, "y"), []), ((0,) * depth, None, None))

    def test_calls_of_calls(self):
        for depth in DEPTHS:
            kind = TRUTH
            for level in range(depth):
                kind = to(NUM, kind)
            expr = name("f")
            for level in range(depth):
                expr = call(expr, num(level))
            self.assertEqual(kind_of(expr, [("f", kind)]), TRUTH)
            self.assertEqual(fault(call(expr, num(0)), [("f", kind)]), ((0,), None, TRUTH))

    def deep_list(self, depth, kind):
        for level in range(depth):
            kind = listed(kind)
        return kind

    def test_kinds_of_any_depth_are_told_apart(self):
        depth = 5000
        same = front(nil(self.deep_list(depth, NUM)), nil(self.deep_list(depth + 1, NUM)))
        self.assertIsNone(fault(same, []))
        for other in [self.deep_list(depth + 1, TRUTH), self.deep_list(depth, NUM)]:
            told = fault(front(nil(self.deep_list(depth, NUM)), nil(other)), [])
            self.assertEqual(told[0], (1,))


if __name__ == "__main__":
    unittest.main()
