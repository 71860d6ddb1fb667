import unittest

from plainly import exact, told
from samples import (
    NUM, TRUTH, add, call, case, choose, front, fun, less, listed, name, nil, num, one_of_each, to, truth,
)
from wellkind.errors import KindError, Stuck, Tired
from wellkind.machine import applied, run

HUGE = 10 ** 100 - 1
ENOUGH = 1000
YES = truth(True)
NO = truth(False)
ONE = num(1)
NONE = nil(NUM)
IDENTITY = ("fun", "x", name("x"), [])


class WorkedOut(unittest.TestCase):
    def assert_value(self, expr, value, names=()):
        self.assertEqual(exact(run(expr, list(names), ENOUGH)), exact(value))

    def assert_steps(self, expr, begun, end="value", names=()):
        """Just so many parts are begun; then there is a value, or it is stuck."""
        for steps in range(begun):
            self.assertEqual(told(lambda: run(expr, list(names), steps)), ("tired",), steps)
        for steps in [begun, begun + 1, begun + 100, HUGE]:
            self.assertEqual(told(lambda: run(expr, list(names), steps))[0], end, steps)

    def assert_stuck(self, expr, begun, names=()):
        self.assert_steps(expr, begun, "stuck", names)


class EachWord(WorkedOut):
    def test_num(self):
        for number in [0, 1, -1, 7, HUGE, -HUGE]:
            self.assert_value(num(number), number)

    def test_truth(self):
        self.assert_value(YES, True)
        self.assert_value(NO, False)

    def test_name(self):
        for value in [0, -3, HUGE, True, False, [], [1, 2], [[True], []], IDENTITY, [IDENTITY]]:
            self.assert_value(name("x"), value, [("x", value)])

    def test_add(self):
        self.assert_value(add(num(2), num(3)), 5)
        self.assert_value(add(num(2), num(-3)), -1)
        self.assert_value(add(num(-2), num(2)), 0)
        self.assert_value(add(num(0), ONE), 1)
        self.assert_value(add(num(HUGE), ONE), 10 ** 100)
        self.assert_value(add(num(-HUGE), num(-HUGE)), -2 * HUGE)
        self.assert_value(add(add(num(1), num(20)), add(num(300), num(4000))), 4321)

    def test_less(self):
        self.assert_value(less(num(2), num(3)), True)
        self.assert_value(less(num(3), num(2)), False)
        self.assert_value(less(num(3), num(3)), False)
        self.assert_value(less(num(-1), num(0)), True)
        self.assert_value(less(num(HUGE - 1), num(HUGE)), True)
        self.assert_value(less(num(-HUGE), num(-HUGE)), False)

    def test_if(self):
        self.assert_value(choose(YES, num(5), num(6)), 5)
        self.assert_value(choose(NO, num(5), num(6)), 6)
        self.assert_value(choose(less(num(2), ONE), YES, NO), False)
        self.assert_value(choose(YES, num(5), NO), 5)
        self.assert_value(choose(NO, num(5), NO), False)

    def test_nil(self):
        for kind in [NUM, TRUTH, listed(NUM), to(NUM, TRUTH)]:
            self.assert_value(nil(kind), [])

    def test_front(self):
        self.assert_value(front(ONE, NONE), [1])
        self.assert_value(front(ONE, front(num(2), front(num(3), NONE))), [1, 2, 3])
        self.assert_value(front(NONE, nil(listed(NUM))), [[]])
        self.assert_value(front(front(ONE, NONE), front(NONE, nil(listed(NUM)))), [[1], []])
        self.assert_value(front(name("x"), name("y")), [0, 1, 2], [("x", 0), ("y", [1, 2])])
        self.assert_value(front(YES, front(ONE, NONE)), [True, 1])

    def test_case(self):
        parted = case(NUM, "h", "t", name("l"), num(9), front(name("h"), front(name("t"), NONE)))
        self.assert_value(parted, 9, [("l", [])])
        self.assert_value(parted, [5, []], [("l", [5])])
        self.assert_value(parted, [5, [6, 7]], [("l", [5, 6, 7])])
        self.assert_value(parted, [[5], [[]]], [("l", [[5], []])])
        self.assert_value(case(NUM, "h", "t", NONE, YES, NO), True)
        self.assert_value(case(NUM, "h", "t", front(ONE, NONE), YES, NO), False)
        self.assert_value(case(NUM, "h", "t", front(ONE, front(num(2), NONE)), num(0), name("h")), 1)
        self.assert_value(case(NUM, "h", "t", front(ONE, front(num(2), NONE)), num(0), name("t")), [2])

    def test_fun(self):
        body = add(name("x"), name("nowhere"))
        self.assert_value(fun("x", NUM, body), ("fun", "x", body, []))
        self.assert_value(fun("y", listed(NUM), ONE), ("fun", "y", ONE, [("a", 1)]), [("a", 1)])

    def test_call(self):
        self.assert_value(call(fun("x", NUM, add(name("x"), num(-1))), num(5)), 4)
        self.assert_value(call(fun("x", NUM, ONE), YES), 1)
        self.assert_value(call(call(fun("x", NUM, fun("y", NUM, less(name("x"), name("y")))), ONE), num(2)), True)
        self.assert_value(call(name("f"), NONE), [], [("f", IDENTITY)])


class NamesKnown(WorkedOut):
    def test_the_last_pair_of_a_name_counts(self):
        names = [("x", 1), ("y", 2), ("x", 3), ("z", 4)]
        self.assert_value(name("x"), 3, names)
        self.assert_value(name("y"), 2, names)
        self.assert_value(name("x"), False, names + [("x", False)])

    def test_a_functions_value_has_the_whole_list(self):
        names = [("x", 1), ("y", [2, [3]]), ("x", True), ("x", True), ("f", IDENTITY)]
        self.assert_value(fun("x", NUM, ONE), ("fun", "x", ONE, names), names)
        made = run(fun("x", NUM, ONE), names, 1)
        self.assertIs(type(made), tuple)
        self.assertIs(type(made[3]), list)
        self.assertEqual([type(pair) for pair in made[3]], [tuple] * 5)

    def test_a_functions_value_has_names_bound_on_the_way(self):
        inner = fun("z", NUM, ONE)
        outer = [("x", 0)]
        self.assert_value(call(fun("x", NUM, inner), num(7)), ("fun", "z", ONE, outer + [("x", 7)]), outer)
        parted = case(NUM, "h", "t", front(num(5), front(num(6), NONE)), ONE, inner)
        self.assert_value(parted, ("fun", "z", ONE, outer + [("h", 5), ("t", [6])]), outer)
        both = case(NUM, "x", "x", front(num(5), NONE), ONE, call(fun("y", NUM, inner), YES))
        self.assert_value(both, ("fun", "z", ONE, outer + [("x", 5), ("x", []), ("y", True)]), outer)

    def test_bound_names_are_not_known_beside(self):
        inner = fun("z", NUM, ONE)
        bare = ("fun", "z", ONE, [])
        self.assert_value(case(NUM, "h", "t", NONE, inner, ONE), bare)
        self.assert_value(front(call(fun("x", NUM, ONE), ONE), front(inner, NONE)), [1, bare])
        used = case(NUM, "h", "t", front(ONE, NONE), ONE, name("h"))
        self.assert_value(front(used, front(inner, NONE)), [1, bare])
        self.assert_stuck(case(NUM, "h", "t", name("h"), ONE, ONE), 2)
        self.assert_stuck(case(NUM, "h", "t", NONE, name("t"), ONE), 3)
        self.assert_stuck(add(used, name("h")), 7)
        self.assert_stuck(call(fun("x", NUM, name("x")), name("x")), 3)
        self.assert_stuck(add(call(fun("x", NUM, name("x")), ONE), name("x")), 6)

    def test_in_a_case_come_head_then_tail_behind_all_others(self):
        members = front(num(5), front(num(6), NONE))
        names = [("h", 1), ("t", 2)]
        self.assert_value(case(NUM, "h", "t", members, ONE, name("h")), 5, names)
        self.assert_value(case(NUM, "h", "t", members, ONE, name("t")), [6], names)
        self.assert_value(case(NUM, "t", "h", members, ONE, name("h")), [6], names)
        self.assert_value(case(NUM, "x", "x", members, ONE, name("x")), [6], names)
        self.assert_value(case(NUM, "h", "t", NONE, name("h"), ONE), 1, names)

    def test_a_function_binds_behind_its_names(self):
        self.assert_value(call(fun("x", NUM, name("x")), ONE), 1, [("x", 9)])
        self.assert_value(call(fun("x", NUM, fun("x", NUM, name("x"))), ONE), ("fun", "x", name("x"), [("x", 1)]))
        self.assert_value(call(call(fun("x", NUM, fun("x", NUM, name("x"))), ONE), num(2)), 2)


class WhereTheFunctionWasMade(WorkedOut):
    def test_bound_anew_where_it_is_called(self):
        # let x be 1, f a function that gives x, x be 2: what does f give?
        late = call(fun("x", NUM, call(name("f"), num(0))), num(2))
        made = call(fun("f", NUM, late), fun("y", NUM, name("x")))
        self.assert_value(call(fun("x", NUM, made), num(1)), 1)
        self.assert_value(made, 8, [("x", 8)])

    def test_bound_by_the_argument_alone(self):
        made = ("fun", "y", name("x"), [("x", 3)])
        self.assert_value(call(name("f"), num(4)), 3, [("f", made), ("x", 5), ("y", 6)])
        self.assert_value(call(fun("x", NUM, call(name("f"), name("x"))), num(4)), 3, [("f", made)])

    def test_names_of_the_caller_are_not_known(self):
        made = ("fun", "y", name("x"), [])
        self.assert_stuck(call(name("f"), num(4)), 4, [("f", made), ("x", 5)])
        self.assert_stuck(call(name("f"), name("x")), 4, [("f", made), ("x", 5)])

    def test_names_of_the_function_are_not_known_behind_the_call(self):
        made = ("fun", "y", num(0), [("x", 3)])
        self.assert_stuck(add(call(name("f"), ONE), name("x")), 6, [("f", made)])
        self.assert_value(add(call(name("f"), ONE), name("x")), 10, [("f", made), ("x", 10)])
        self.assert_value(add(call(name("f"), ONE), name("y")), 20, [("f", made), ("y", 20)])

    def test_bound_anew_by_a_case(self):
        late = case(NUM, "x", "t", front(num(7), NONE), ONE, call(name("f"), ONE))
        self.assert_value(late, 3, [("f", ("fun", "y", name("x"), [("x", 3)]))])


class Steps(WorkedOut):
    def test_each_word(self):
        names = [("x", 1), ("f", IDENTITY), ("l", [1])]
        for expr, begun in [
            (ONE, 1), (YES, 1), (name("x"), 1), (NONE, 1), (fun("y", NUM, add(ONE, ONE)), 1),
            (add(ONE, ONE), 3), (less(ONE, ONE), 3), (front(ONE, NONE), 3),
            (choose(YES, ONE, ONE), 3), (choose(NO, ONE, add(ONE, ONE)), 5), (choose(YES, ONE, add(ONE, ONE)), 3),
            (case(NUM, "h", "t", NONE, ONE, add(ONE, ONE)), 3),
            (case(NUM, "h", "t", name("l"), ONE, add(ONE, ONE)), 5),
            (call(name("f"), ONE), 4), (call(fun("x", NUM, add(name("x"), num(-1))), num(5)), 6),
        ]:
            self.assert_steps(expr, begun, names=names)

    def test_a_body_counts_as_often_as_it_is_begun(self):
        twice = fun("f", to(NUM, NUM), add(call(name("f"), ONE), call(name("f"), ONE)))
        self.assert_steps(call(twice, fun("x", NUM, add(name("x"), name("x")))), 16)

    def test_no_steps_are_refused_whatever_the_part_is(self):
        for expr, own in one_of_each() + [(name("nowhere"), 0), (add(YES, NO), 2), (call(ONE, ONE), 2)]:
            with self.assertRaises(Tired) as refused:
                run(expr, [], 0)
            self.assertIsInstance(refused.exception, KindError)
            self.assertNotIsInstance(refused.exception, Stuck)

    def test_tired_ahead_of_stuck(self):
        self.assert_stuck(name("x"), 1)
        self.assert_stuck(add(ONE, name("x")), 3)
        self.assert_stuck(choose(YES, name("x"), ONE), 3)
        self.assert_stuck(call(fun("x", NUM, name("y")), ONE), 4)
        self.assert_stuck(call(fun("x", NUM, add(name("x"), YES)), ONE), 6)

    def test_stuck_ahead_of_tired(self):
        # The part that is stuck begins no other, so no step is missing.
        self.assert_stuck(choose(ONE, ONE, ONE), 2)
        self.assert_stuck(case(NUM, "h", "t", ONE, ONE, ONE), 2)
        self.assert_stuck(call(ONE, ONE), 3)


class StuckParts(WorkedOut):
    def test_names(self):
        self.assert_stuck(name("x"), 1)
        self.assert_stuck(name("x"), 1, [("y", 1), ("xx", 2)])
        self.assert_stuck(add(name("x"), name("y")), 2)
        self.assert_stuck(front(name("x"), NONE), 2)
        self.assert_stuck(call(name("f"), ONE), 2)
        with self.assertRaises(Stuck) as refused:
            run(name("x"), [], 1)
        self.assertIsInstance(refused.exception, KindError)
        self.assertNotIsInstance(refused.exception, Tired)

    def test_add_and_less(self):
        for build in [add, less]:
            for wrong in [YES, NO, NONE, fun("x", NUM, ONE), name("l")]:
                names = [("l", [1])]
                self.assert_stuck(build(wrong, ONE), 3, names)
                self.assert_stuck(build(ONE, wrong), 3, names)
                self.assert_stuck(build(wrong, wrong), 3, names)
                self.assert_stuck(build(wrong, add(ONE, ONE)), 5, names)

    def test_truths_from_outside_are_no_numbers(self):
        for build in [add, less]:
            for wrong in [True, False]:
                self.assert_stuck(build(name("x"), ONE), 3, [("x", wrong)])
                self.assert_stuck(build(num(0), name("x")), 3, [("x", wrong)])

    def test_both_own_parts_are_begun(self):
        self.assert_stuck(add(YES, add(NO, ONE)), 5)
        self.assert_stuck(less(YES, add(NO, ONE)), 5)
        self.assert_stuck(call(ONE, add(NO, ONE)), 5)
        self.assert_stuck(front(ONE, add(NO, ONE)), 5)
        self.assert_stuck(add(YES, name("x")), 3)
        self.assert_stuck(call(ONE, name("x")), 3)
        self.assert_stuck(add(add(NO, ONE), YES), 4)
        self.assert_stuck(call(add(NO, ONE), ONE), 4)
        self.assert_stuck(front(add(NO, ONE), ONE), 4)

    def test_if(self):
        for wrong in [num(0), ONE, NONE, fun("x", NUM, YES)]:
            self.assert_stuck(choose(wrong, name("x"), name("y")), 2)
        self.assert_stuck(choose(add(ONE, ONE), ONE, ONE), 4)
        self.assert_stuck(choose(name("x"), ONE, ONE), 2)
        for wrong in [1, 0, [], [True], IDENTITY]:
            self.assert_stuck(choose(name("c"), ONE, ONE), 2, [("c", wrong)])

    def test_case(self):
        for wrong in [num(0), YES, fun("x", NUM, NONE)]:
            self.assert_stuck(case(NUM, "h", "t", wrong, name("x"), name("y")), 2)
        self.assert_stuck(case(NUM, "h", "t", add(ONE, ONE), ONE, ONE), 4)
        for wrong in [0, False, IDENTITY]:
            self.assert_stuck(case(NUM, "h", "t", name("l"), ONE, ONE), 2, [("l", wrong)])

    def test_front(self):
        for wrong in [num(0), YES, fun("x", NUM, NONE)]:
            self.assert_stuck(front(ONE, wrong), 3)
        self.assert_stuck(front(NONE, ONE), 3)
        for wrong in [0, False, IDENTITY]:
            self.assert_stuck(front(ONE, name("l")), 3, [("l", wrong)])

    def test_call(self):
        for wrong in [num(0), YES, NONE]:
            self.assert_stuck(call(wrong, ONE), 3)
            self.assert_stuck(call(wrong, add(ONE, ONE)), 5)
        self.assert_stuck(call(ONE, fun("x", NUM, ONE)), 3)
        for wrong in [0, False, [], [IDENTITY]]:
            self.assert_stuck(call(name("f"), ONE), 3, [("f", wrong)])

    def test_members_are_not_looked_at(self):
        self.assert_value(front(YES, front(ONE, NONE)), [True, 1])
        self.assert_value(front(fun("x", NUM, ONE), name("l")), [("fun", "x", ONE, [("l", [1])]), 1], [("l", [1])])
        self.assert_value(case(NUM, "h", "t", name("l"), ONE, name("h")), True, [("l", [True, 2])])
        self.assert_value(case(TRUTH, "h", "t", name("l"), ONE, name("t")), [2, []], [("l", [True, 2, []])])

    def test_what_is_never_begun_is_never_stuck(self):
        bad = add(YES, name("nowhere"))
        self.assert_steps(choose(YES, ONE, bad), 3)
        self.assert_steps(choose(NO, bad, ONE), 3)
        self.assert_steps(case(NUM, "h", "t", NONE, ONE, bad), 3)
        self.assert_steps(case(NUM, "h", "t", name("l"), bad, ONE), 3, names=[("l", [1])])
        self.assert_steps(fun("x", NUM, bad), 1)
        self.assert_steps(call(fun("f", NUM, ONE), fun("x", NUM, bad)), 4)


class Applied(unittest.TestCase):
    def assert_steps(self, function, argument, begun, end):
        for steps in range(begun):
            self.assertEqual(told(lambda: applied(function, argument, steps)), ("tired",))
        for steps in [begun, begun + 1, HUGE]:
            self.assertEqual(told(lambda: applied(function, argument, steps)), end)

    def test_the_body_is_the_first_step(self):
        self.assert_steps(IDENTITY, 5, 1, ("value", exact(5)))
        self.assert_steps(("fun", "x", ONE, []), True, 1, ("value", exact(1)))
        self.assert_steps(("fun", "x", add(name("x"), ONE), []), 5, 3, ("value", exact(6)))
        self.assert_steps(("fun", "x", name("y"), []), 5, 1, ("stuck",))
        self.assert_steps(("fun", "x", add(name("x"), YES), []), 5, 3, ("stuck",))

    def test_names_of_the_function(self):
        body = front(name("x"), front(name("y"), NONE))
        self.assertEqual(applied(("fun", "x", body, [("x", 1), ("y", 2)]), 3, ENOUGH), [3, 2])
        self.assertEqual(applied(("fun", "x", body, [("y", 1), ("y", 2)]), 3, ENOUGH), [3, 2])
        self.assertEqual(applied(("fun", "y", body, [("x", 1), ("y", 2)]), 3, ENOUGH), [1, 3])

    def test_values_of_every_sort_are_taken_and_given(self):
        for value in [0, HUGE, True, False, [], [[1], []], IDENTITY, [IDENTITY, [True]]]:
            self.assertEqual(exact(applied(IDENTITY, value, 1)), exact(value))

    def test_a_function_given_back_has_the_argument_behind_its_names(self):
        inner = fun("z", NUM, ONE)
        made = applied(("fun", "x", inner, [("x", 1), ("y", True)]), [2], ENOUGH)
        self.assertEqual(exact(made), exact(("fun", "z", ONE, [("x", 1), ("y", True), ("x", [2])])))
        self.assertEqual(applied(made, 0, 1), 1)

    def test_what_run_gives_can_be_applied(self):
        made = run(fun("x", NUM, fun("y", NUM, add(name("x"), add(name("y"), name("z"))))), [("z", 100)], 1)
        self.assertEqual(applied(applied(made, 20, 1), 3, 5), 123)
        with self.assertRaises(Tired):
            applied(applied(made, 20, 1), 3, 4)

    def test_what_is_no_functions_value(self):
        for wrong in [0, 1, -HUGE, True, False, [], [1], [IDENTITY], fun("x", NUM, ONE), to(NUM, NUM)]:
            for steps in [0, 1, ENOUGH]:
                with self.assertRaises(Stuck):
                    applied(wrong, 1, steps)

    def test_arguments_are_looked_at_only_where_they_are_used(self):
        self.assertEqual(applied(("fun", "x", ONE, []), [True, [], 1], 1), 1)
        self.assertEqual(applied(("fun", "x", front(name("x"), NONE), []), True, 3), [True])


class OverAndOver(unittest.TestCase):
    def assert_tired(self, expr, names=()):
        for steps in [0, 1, 2, 3, 50000]:
            with self.assertRaises(Tired):
                run(expr, list(names), steps)

    def test_a_function_that_calls_itself(self):
        itself = fun("f", NUM, call(name("f"), name("f")))
        self.assert_tired(call(itself, itself))

    def test_a_function_that_is_still_needed_when_it_calls_itself(self):
        for around in [
            lambda again: add(ONE, again),
            lambda again: add(again, ONE),
            lambda again: front(ONE, again),
            lambda again: choose(again, ONE, ONE),
            lambda again: case(NUM, "h", "t", again, ONE, ONE),
            lambda again: call(again, ONE),
            lambda again: call(fun("x", NUM, ONE), again),
        ]:
            itself = fun("f", NUM, around(call(name("f"), name("f"))))
            self.assert_tired(call(itself, itself))

    def test_names_that_lie_in_one_another_ever_deeper(self):
        later = call(call(name("f"), name("f")), fun("y", NUM, name("g")))
        itself = fun("f", NUM, fun("g", NUM, later))
        self.assert_tired(call(call(itself, itself), ONE))

    def test_applied(self):
        itself = ("fun", "f", call(name("f"), name("f")), [])
        with self.assertRaises(Tired):
            applied(itself, itself, 50000)
        self.assert_tired(call(name("f"), name("f")), [("f", itself)])

    def test_many_steps_with_an_end(self):
        # Counts n down to nought, and adds it all up on the way.
        again = add(name("n"), call(call(name("f"), name("f")), add(name("n"), num(-1))))
        total = fun("f", NUM, fun("n", NUM, choose(less(name("n"), ONE), num(0), again)))
        expr = call(call(total, total), num(5000))
        self.assertEqual(run(expr, [], 10 ** 6), 5000 * 5001 // 2)


if __name__ == "__main__":
    unittest.main()
