import unittest

from samples import (
    NUM, TRUTH, add, call, case, choose, front, fun, less, listed, name, nil, num, to, truth,
)
from wellkind.errors import NoPart
from wellkind.parts import part_at, places
from wellkind.writing import shown, span

HUGE = 10 ** 100 - 1
ONE = num(1)
EXAMPLE = call(fun("x", NUM, add(name("x"), num(-1))), num(5))
LONG = case(
    listed(to(NUM, TRUTH)), "hd", "tl", nil(listed(to(NUM, TRUTH))),
    choose(less(ONE, num(-20)), fun("a", NUM, truth(True)), name("b")),
    call(name("hd"), front(name("tl"), nil(TRUTH))),
)

WRITTEN = [
    (num(0), "0"),
    (num(7), "7"),
    (num(-1), "-1"),
    (num(10), "10"),
    (num(-900), "-900"),
    (num(1000000), "1000000"),
    (num(HUGE), "9" * 100),
    (num(-HUGE), "-" + "9" * 100),
    (num(10 ** 99), "1" + "0" * 99),
    (num(12345678901234567890), "12345678901234567890"),
    (truth(True), "yes"),
    (truth(False), "no"),
    (name("x"), "x"),
    (name("numb"), "numb"),
    (name("abcdefghijklmnopqrstuvwxyz"), "abcdefghijklmnopqrstuvwxyz"),
    (add(ONE, num(2)), "(add 1 2)"),
    (less(num(-1), name("y")), "(less -1 y)"),
    (choose(truth(True), ONE, num(2)), "(if yes 1 2)"),
    (nil(NUM), "(nil num)"),
    (nil(TRUTH), "(nil truth)"),
    (nil(listed(NUM)), "(nil (list num))"),
    (nil(to(NUM, TRUTH)), "(nil (to num truth))"),
    (nil(to(TRUTH, NUM)), "(nil (to truth num))"),
    (nil(listed(to(to(NUM, TRUTH), listed(listed(NUM))))), "(nil (list (to (to num truth) (list (list num)))))"),
    (front(ONE, nil(NUM)), "(front 1 (nil num))"),
    (case(NUM, "h", "t", name("l"), num(0), name("h")), "(case num l 0 h t h)"),
    (case(NUM, "x", "x", name("l"), num(0), ONE), "(case num l 0 x x 1)"),
    (fun("x", NUM, name("y")), "(fun x num y)"),
    (fun("f", to(NUM, NUM), name("f")), "(fun f (to num num) f)"),
    (call(name("f"), ONE), "(call f 1)"),
    (EXAMPLE, "(call (fun x num (add x -1)) 5)"),
    (LONG, "(case (list (to num truth)) (nil (list (to num truth)))"
     " (if (less 1 -20) (fun a num yes) b) hd tl (call hd (front tl (nil truth))))"),
]


class Shown(unittest.TestCase):
    def test_lines(self):
        for expr, line in WRITTEN:
            self.assertEqual(shown(expr), line)

    def test_a_line_is_a_text(self):
        self.assertIs(type(shown(ONE)), str)
        self.assertIs(type(shown(EXAMPLE)), str)

    def test_faults_are_written_too(self):
        self.assertEqual(shown(add(truth(True), nil(NUM))), "(add yes (nil num))")
        self.assertEqual(shown(call(ONE, name("nowhere"))), "(call 1 nowhere)")


class Span(unittest.TestCase):
    def test_the_example(self):
        self.assertEqual(span(add(ONE, truth(True)), (1,)), (7, 10))

    def test_a_stretch_is_a_tuple(self):
        self.assertIs(type(span(ONE, ())), tuple)
        self.assertIs(type(span(EXAMPLE, (0, 0))), tuple)

    def test_the_whole(self):
        for expr, line in WRITTEN:
            self.assertEqual(span(expr, ()), (0, len(line)))

    def test_each_own_part(self):
        for expr, stretches in [
            (add(ONE, num(-20)), [(5, 6), (7, 10)]),
            (less(ONE, num(-20)), [(6, 7), (8, 11)]),
            (choose(truth(True), num(22), ONE), [(4, 7), (8, 10), (11, 12)]),
            (front(ONE, nil(NUM)), [(7, 8), (9, 18)]),
            (case(NUM, "hh", "t", name("l"), num(10), name("hh")), [(10, 11), (12, 14), (20, 22)]),
            (case(listed(NUM), "h", "t", name("l"), num(10), name("h")), [(17, 18), (19, 21), (26, 27)]),
            (fun("x", NUM, name("y")), [(11, 12)]),
            (fun("xyz", to(NUM, TRUTH), name("y")), [(24, 25)]),
            (call(name("f"), num(30)), [(6, 7), (8, 10)]),
        ]:
            self.assertEqual([span(expr, (number,)) for number in range(len(stretches))], stretches)

    def test_parts_within_parts(self):
        # (call (fun x num (add x -1)) 5)
        self.assertEqual(
            [(place, span(EXAMPLE, place)) for place in places(EXAMPLE)],
            [((0, 0, 0), (22, 23)), ((0, 0, 1), (24, 26)), ((0, 0), (17, 27)), ((0,), (6, 28)), ((1,), (29, 30)),
             ((), (0, 31))],
        )

    def test_the_stretch_holds_the_parts_own_line(self):
        for expr, line in WRITTEN:
            for place in places(expr):
                start, end = span(expr, place)
                self.assertEqual(line[start:end], shown(part_at(expr, place)))

    def test_equal_parts_have_each_their_own_stretch(self):
        expr = add(add(ONE, ONE), add(ONE, ONE))
        # (add (add 1 1) (add 1 1))
        self.assertEqual(
            [span(expr, place) for place in places(expr)],
            [(10, 11), (12, 13), (5, 14), (20, 21), (22, 23), (15, 24), (0, 25)],
        )

    def test_a_place_that_leads_nowhere(self):
        for place in [(2,), (-1,), (0, 0)]:
            with self.assertRaises(NoPart):
                span(add(ONE, ONE), place)


if __name__ == "__main__":
    unittest.main()
