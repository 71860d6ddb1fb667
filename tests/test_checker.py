import unittest

from samples import (
    NUM, TRUTH, add, call, case, choose, front, fun, less, listed, name, nil, num, to, truth,
)
from wellkind.checker import fault, kind_of, notes
from wellkind.errors import BadKind

HUGE = 10 ** 100 - 1
NUMS = listed(NUM)
TRUTHS = listed(TRUTH)
ONE = num(1)
YES = truth(True)
TO_TRUTH = fun("x", NUM, less(name("x"), num(0)))


class Checked(unittest.TestCase):
    def assert_kind(self, expr, scope, kind):
        self.assertEqual(kind_of(expr, scope), kind)
        self.assertIsNone(fault(expr, scope))
        self.assertEqual(notes(expr, scope)[-1], ((), kind))

    def assert_fault(self, expr, scope, told):
        self.assertEqual(fault(expr, scope), told)
        self.assertIs(type(fault(expr, scope)), tuple)
        with self.assertRaises(BadKind):
            kind_of(expr, scope)


class Scopes(Checked):
    def test_a_name_has_the_kind_of_its_pair(self):
        scope = [("x", NUM), ("y", TRUTHS), ("z", to(NUM, TRUTH))]
        self.assert_kind(name("x"), scope, NUM)
        self.assert_kind(name("y"), scope, TRUTHS)
        self.assert_kind(name("z"), scope, to(NUM, TRUTH))

    def test_short_and_long_names(self):
        long = "abcdefghijklmnopqrstuvwxyz" * 10
        self.assert_kind(name(long), [(long[1:], TRUTH), (long, NUM)], NUM)
        self.assert_kind(name("a"), [("a", NUM), ("aa", TRUTH)], NUM)
        self.assert_kind(name("numb"), [("numb", TRUTH)], TRUTH)

    def test_the_last_pair_of_a_name_counts(self):
        self.assert_kind(name("x"), [("x", NUM), ("x", TRUTH)], TRUTH)
        self.assert_kind(name("x"), [("x", TRUTH), ("y", TRUTH), ("x", NUM), ("z", TRUTH)], NUM)
        self.assert_kind(name("x"), [("x", NUM), ("x", TRUTH), ("x", NUMS)], NUMS)

    def test_a_fun_makes_its_name_known_within(self):
        self.assert_kind(fun("x", TRUTH, name("x")), [], to(TRUTH, TRUTH))
        self.assert_kind(fun("x", TRUTH, name("x")), [("x", NUM)], to(TRUTH, TRUTH))
        self.assert_kind(fun("x", TRUTH, name("y")), [("y", NUM)], to(TRUTH, NUM))
        self.assert_kind(
            fun("x", NUM, fun("x", TRUTH, name("x"))), [], to(NUM, to(TRUTH, TRUTH)),
        )
        self.assert_kind(
            fun("x", NUM, fun("y", TRUTH, name("x"))), [], to(NUM, to(TRUTH, NUM)),
        )

    def test_a_funs_name_is_not_known_beside_it(self):
        self.assert_fault(call(fun("x", NUM, name("x")), name("x")), [], ((1,), None, None))
        self.assert_fault(
            front(name("x"), call(fun("x", NUM, nil(NUM)), ONE)), [], ((0,), None, None),
        )
        outer = [("x", TRUTH)]
        self.assert_fault(call(fun("x", NUM, name("x")), name("x")), outer, ((1,), NUM, TRUTH))
        self.assert_kind(call(fun("x", TRUTH, ONE), name("x")), outer, NUM)

    def test_a_case_makes_its_names_known_in_its_last_part(self):
        head = case(NUM, "h", "t", nil(NUM), num(0), name("h"))
        tail = case(NUM, "h", "t", nil(NUM), nil(NUM), name("t"))
        self.assert_kind(head, [], NUM)
        self.assert_kind(tail, [], NUMS)
        self.assert_kind(head, [("h", TRUTH), ("t", TRUTH)], NUM)
        self.assert_kind(tail, [("h", TRUTH), ("t", TRUTH)], NUMS)
        self.assert_kind(case(NUM, "h", "t", nil(NUM), YES, name("y")), [("y", TRUTH)], TRUTH)

    def test_a_name_for_both_stands_for_the_list(self):
        both = case(NUM, "h", "h", nil(NUM), nil(NUM), name("h"))
        self.assert_kind(both, [], NUMS)
        self.assert_kind(both, [("h", TRUTH)], NUMS)
        wrong = case(NUM, "h", "h", nil(NUM), num(0), name("h"))
        self.assert_fault(wrong, [], ((2,), NUM, NUMS))

    def test_a_cases_names_are_not_known_beside_its_last_part(self):
        for text in ["h", "t"]:
            with self.subTest(text=text):
                self.assert_fault(
                    case(NUM, "h", "t", name(text), ONE, ONE), [], ((0,), None, None),
                )
                self.assert_fault(
                    case(NUM, "h", "t", nil(NUM), name(text), ONE), [], ((1,), None, None),
                )
                self.assert_fault(
                    add(case(NUM, "h", "t", nil(NUM), ONE, ONE), name(text)), [], ((1,), None, None),
                )

    def test_the_scope_around_a_case_counts_beside_its_last_part(self):
        scope = [("h", NUMS), ("t", TRUTH)]
        self.assert_kind(case(NUM, "h", "t", name("h"), YES, YES), scope, TRUTH)
        self.assert_kind(case(NUM, "h", "t", nil(NUM), name("t"), YES), scope, TRUTH)
        self.assert_fault(case(NUM, "h", "t", nil(NUM), YES, name("t")), scope, ((2,), TRUTH, NUMS))

    def test_names_are_known_in_all_that_lies_within(self):
        self.assert_kind(
            fun("x", NUM, choose(less(name("x"), ONE), add(name("x"), ONE), name("x"))), [], to(NUM, NUM),
        )
        deep = case(NUM, "h", "t", nil(NUM), nil(NUM), front(add(name("h"), name("x")), name("t")))
        self.assert_kind(fun("x", NUM, deep), [], to(NUM, NUMS))

    def test_every_other_own_part_has_the_same_scope(self):
        scope = [("n", NUM), ("b", TRUTH), ("l", NUMS), ("f", to(NUM, TRUTH))]
        self.assert_kind(add(name("n"), name("n")), scope, NUM)
        self.assert_kind(less(name("n"), name("n")), scope, TRUTH)
        self.assert_kind(choose(name("b"), name("n"), name("n")), scope, NUM)
        self.assert_kind(front(name("n"), name("l")), scope, NUMS)
        self.assert_kind(case(NUM, "h", "t", name("l"), name("b"), name("b")), scope, TRUTH)
        self.assert_kind(call(name("f"), name("n")), scope, TRUTH)

    def test_the_scope_is_as_it_was(self):
        expr = call(fun("x", NUM, case(NUM, "h", "t", nil(NUM), name("x"), name("h"))), ONE)
        scope = [("x", TRUTH), ("h", TRUTH), ("x", NUMS)]
        before = list(scope)
        notes(expr, scope)
        fault(expr, scope)
        kind_of(expr, scope)
        self.assertEqual(scope, before)

    def test_nothing_is_kept_of_the_scope(self):
        expr = add(name("x"), ONE)
        scope = [("x", NUM)]
        told = notes(expr, scope)
        scope.append(("x", TRUTH))
        self.assertEqual(told, [((0,), NUM), ((1,), NUM), ((), NUM)])
        self.assert_fault(expr, scope, ((0,), NUM, TRUTH))
        scope.clear()
        self.assert_fault(expr, scope, ((0,), None, None))
        self.assertEqual(told, [((0,), NUM), ((1,), NUM), ((), NUM)])
        self.assertEqual(expr, add(name("x"), ONE))


class RulesMet(Checked):
    def test_num(self):
        for number in [0, 1, -1, 12345, HUGE, -HUGE]:
            with self.subTest(number=number):
                self.assert_kind(num(number), [], NUM)

    def test_truth(self):
        self.assert_kind(truth(True), [], TRUTH)
        self.assert_kind(truth(False), [], TRUTH)

    def test_nil(self):
        for kind in [NUM, TRUTH, NUMS, listed(TRUTHS), to(NUM, TRUTHS)]:
            with self.subTest(kind=kind):
                self.assert_kind(nil(kind), [], listed(kind))

    def test_add_and_less(self):
        self.assert_kind(add(num(HUGE), num(-HUGE)), [], NUM)
        self.assert_kind(less(num(HUGE), num(-HUGE)), [], TRUTH)
        self.assert_kind(less(add(ONE, ONE), add(ONE, ONE)), [], TRUTH)

    def test_if(self):
        self.assert_kind(choose(YES, ONE, ONE), [], NUM)
        self.assert_kind(choose(less(ONE, ONE), YES, truth(False)), [], TRUTH)
        self.assert_kind(choose(YES, nil(TRUTH), nil(TRUTH)), [], TRUTHS)
        self.assert_kind(
            choose(YES, TO_TRUTH, fun("y", NUM, YES)), [], to(NUM, TRUTH),
        )

    def test_front(self):
        self.assert_kind(front(ONE, nil(NUM)), [], NUMS)
        self.assert_kind(front(YES, front(YES, nil(TRUTH))), [], TRUTHS)
        self.assert_kind(front(nil(NUM), nil(NUMS)), [], listed(NUMS))
        self.assert_kind(front(TO_TRUTH, nil(to(NUM, TRUTH))), [], listed(to(NUM, TRUTH)))

    def test_case(self):
        self.assert_kind(case(NUM, "h", "t", nil(NUM), YES, less(name("h"), ONE)), [], TRUTH)
        self.assert_kind(case(TRUTH, "h", "t", front(YES, nil(TRUTH)), nil(TRUTH), name("t")), [], TRUTHS)
        self.assert_kind(
            case(NUMS, "h", "t", nil(NUMS), nil(NUM), name("h")), [], NUMS,
        )

    def test_fun(self):
        self.assert_kind(fun("x", NUM, YES), [], to(NUM, TRUTH))
        self.assert_kind(fun("x", TRUTHS, ONE), [], to(TRUTHS, NUM))
        self.assert_kind(
            fun("f", to(NUM, TRUTH), call(name("f"), ONE)), [], to(to(NUM, TRUTH), TRUTH),
        )

    def test_call(self):
        self.assert_kind(call(TO_TRUTH, ONE), [], TRUTH)
        self.assert_kind(call(fun("x", TRUTH, nil(NUM)), YES), [], NUMS)
        twice = fun("x", NUM, fun("y", TRUTH, name("x")))
        self.assert_kind(call(twice, ONE), [], to(TRUTH, NUM))
        self.assert_kind(call(call(twice, ONE), YES), [], NUM)
        self.assert_kind(call(fun("f", to(NUM, TRUTH), name("f")), TO_TRUTH), [], to(NUM, TRUTH))


class RulesBroken(Checked):
    def test_a_name_not_known(self):
        self.assert_fault(name("x"), [], ((), None, None))
        self.assert_fault(name("x"), [("y", NUM), ("xx", NUM)], ((), None, None))
        self.assert_fault(add(ONE, add(ONE, name("x"))), [], ((1, 1), None, None))
        self.assert_fault(fun("x", NUM, name("y")), [], ((0,), None, None))

    def test_add_and_less(self):
        for word in [add, less]:
            with self.subTest(word=word.__name__):
                self.assert_fault(word(YES, ONE), [], ((0,), NUM, TRUTH))
                self.assert_fault(word(ONE, YES), [], ((1,), NUM, TRUTH))
                self.assert_fault(word(nil(NUM), ONE), [], ((0,), NUM, NUMS))
                self.assert_fault(word(ONE, TO_TRUTH), [], ((1,), NUM, to(NUM, TRUTH)))
                self.assert_fault(word(nil(NUM), YES), [], ((0,), NUM, NUMS))

    def test_if(self):
        self.assert_fault(choose(ONE, ONE, ONE), [], ((0,), TRUTH, NUM))
        self.assert_fault(choose(nil(TRUTH), ONE, ONE), [], ((0,), TRUTH, TRUTHS))
        self.assert_fault(choose(YES, ONE, YES), [], ((2,), NUM, TRUTH))
        self.assert_fault(choose(YES, YES, ONE), [], ((2,), TRUTH, NUM))
        self.assert_fault(choose(YES, nil(NUM), nil(TRUTH)), [], ((2,), NUMS, TRUTHS))
        self.assert_fault(choose(ONE, YES, ONE), [], ((0,), TRUTH, NUM))

    def test_front(self):
        self.assert_fault(front(ONE, ONE), [], ((1,), NUMS, NUM))
        self.assert_fault(front(ONE, nil(TRUTH)), [], ((1,), NUMS, TRUTHS))
        self.assert_fault(front(nil(NUM), nil(NUM)), [], ((1,), listed(NUMS), NUMS))
        self.assert_fault(front(nil(NUM), ONE), [], ((1,), listed(NUMS), NUM))

    def test_case(self):
        self.assert_fault(case(NUM, "h", "t", ONE, ONE, ONE), [], ((0,), NUMS, NUM))
        self.assert_fault(case(NUM, "h", "t", nil(TRUTH), ONE, ONE), [], ((0,), NUMS, TRUTHS))
        self.assert_fault(case(TRUTH, "h", "t", nil(NUM), ONE, name("h")), [], ((0,), TRUTHS, NUMS))
        self.assert_fault(case(NUM, "h", "t", nil(NUM), YES, name("h")), [], ((2,), TRUTH, NUM))
        self.assert_fault(case(NUM, "h", "t", nil(NUM), ONE, name("t")), [], ((2,), NUM, NUMS))
        self.assert_fault(case(NUM, "h", "t", YES, ONE, YES), [], ((0,), NUMS, TRUTH))

    def test_a_call_of_what_is_no_function(self):
        self.assert_fault(call(ONE, ONE), [], ((0,), None, NUM))
        self.assert_fault(call(YES, ONE), [], ((0,), None, TRUTH))
        self.assert_fault(call(nil(to(NUM, NUM)), ONE), [], ((0,), None, listed(to(NUM, NUM))))
        self.assert_fault(add(ONE, call(call(TO_TRUTH, ONE), YES)), [], ((1, 0), None, TRUTH))

    def test_a_call_with_another_kind_than_the_function_takes(self):
        self.assert_fault(call(TO_TRUTH, YES), [], ((1,), NUM, TRUTH))
        self.assert_fault(call(TO_TRUTH, TO_TRUTH), [], ((1,), NUM, to(NUM, TRUTH)))
        takes = fun("f", to(NUM, NUM), ONE)
        self.assert_fault(call(takes, TO_TRUTH), [], ((1,), to(NUM, NUM), to(NUM, TRUTH)))
        self.assert_fault(
            call(takes, fun("x", TRUTH, ONE)), [], ((1,), to(NUM, NUM), to(TRUTH, NUM)),
        )

    def test_kinds_that_differ_only_deep_within(self):
        one = to(listed(NUM), to(TRUTH, listed(NUM)))
        for other in [
            to(listed(TRUTH), to(TRUTH, listed(NUM))),
            to(listed(NUM), to(NUM, listed(NUM))),
            to(listed(NUM), to(TRUTH, listed(TRUTH))),
            to(listed(NUM), to(TRUTH, NUM)),
            to(listed(NUM), listed(NUM)),
        ]:
            with self.subTest(other=other):
                scope = [("x", one), ("y", other)]
                self.assert_fault(choose(YES, name("x"), name("y")), scope, ((2,), one, other))
                self.assert_kind(choose(YES, name("y"), name("y")), scope, other)


def fresh(value):
    """The same value with texts of its own, as they come out of a reader."""
    if isinstance(value, str):
        return "".join(list(value))
    if isinstance(value, tuple):
        return tuple(fresh(member) for member in value)
    return value


class FreshTexts(Checked):
    def test_texts_are_told_apart_by_their_letters_alone(self):
        expr = case(NUM, "hh", "tt", front(ONE, nil(NUM)), YES, call(TO_TRUTH, name("hh")))
        whole = fun("xx", to(NUM, NUMS), choose(less(ONE, add(ONE, ONE)), expr, name("yy")))
        self.assert_kind(fresh(whole), [(fresh("yy"), fresh(TRUTH))], to(to(NUM, NUMS), TRUTH))
        self.assert_fault(fresh(whole), [(fresh("yy"), fresh(NUM))], ((0, 2), TRUTH, NUM))


class FirstFault(Checked):
    def test_none_where_there_is_none(self):
        self.assertIsNone(fault(call(TO_TRUTH, ONE), []))

    def test_own_parts_come_ahead_of_the_whole(self):
        self.assert_fault(add(YES, add(YES, ONE)), [], ((1, 0), NUM, TRUTH))
        self.assert_fault(choose(ONE, ONE, less(ONE, nil(NUM))), [], ((2, 1), NUM, NUMS))
        self.assert_fault(call(ONE, name("x")), [], ((1,), None, None))
        self.assert_fault(add(YES, name("x")), [], ((1,), None, None))

    def test_the_first_of_several_own_parts_comes_first(self):
        self.assert_fault(add(add(ONE, YES), name("x")), [], ((0, 1), NUM, TRUTH))
        self.assert_fault(add(name("y"), name("x")), [], ((0,), None, None))
        self.assert_fault(choose(name("x"), call(ONE, ONE), name("y")), [], ((0,), None, None))
        self.assert_fault(choose(YES, call(ONE, ONE), name("y")), [], ((1, 0), None, NUM))

    def test_a_deep_part_of_the_first_comes_ahead_of_the_second(self):
        deep = fun("x", NUM, front(name("x"), front(YES, nil(NUM))))
        self.assert_fault(call(deep, name("y")), [], ((0, 0, 1, 1), TRUTHS, NUMS))

    def test_parts_that_would_never_be_begun_are_checked(self):
        self.assert_fault(choose(YES, ONE, add(YES, ONE)), [], ((2, 0), NUM, TRUTH))
        self.assert_fault(fun("x", NUM, add(YES, ONE)), [], ((0, 0), NUM, TRUTH))


class Notes(Checked):
    def test_all_parts_where_all_rules_are_met(self):
        expr = case(NUM, "h", "t", front(ONE, nil(NUM)), YES, call(TO_TRUTH, name("h")))
        self.assertEqual(notes(expr, []), [
            ((0, 0), NUM),
            ((0, 1), NUMS),
            ((0,), NUMS),
            ((1,), TRUTH),
            ((2, 0, 0, 0), NUM),
            ((2, 0, 0, 1), NUM),
            ((2, 0, 0), TRUTH),
            ((2, 0), to(NUM, TRUTH)),
            ((2, 1), NUM),
            ((2,), TRUTH),
            ((), TRUTH),
        ])

    def test_one_part_alone(self):
        self.assertEqual(notes(num(-HUGE), []), [((), NUM)])
        self.assertEqual(notes(name("x"), [("x", TRUTHS)]), [((), TRUTHS)])

    def test_they_end_ahead_of_the_part_whose_rule_is_not_met(self):
        self.assertEqual(notes(add(ONE, YES), []), [((0,), NUM), ((1,), TRUTH)])
        self.assertEqual(notes(call(ONE, YES), []), [((0,), NUM), ((1,), TRUTH)])
        self.assertEqual(
            notes(add(add(ONE, ONE), add(YES, ONE)), []),
            [((0, 0), NUM), ((0, 1), NUM), ((0,), NUM), ((1, 0), TRUTH), ((1, 1), NUM)],
        )
        self.assertEqual(notes(choose(YES, name("x"), ONE), []), [((0,), TRUTH)])
        self.assertEqual(notes(front(add(YES, ONE), nil(NUM)), []), [((0, 0), TRUTH), ((0, 1), NUM)])

    def test_none_where_the_first_part_is_at_fault(self):
        self.assertEqual(notes(name("x"), []), [])
        self.assertEqual(notes(add(add(name("x"), ONE), ONE), []), [])

    def test_a_list_of_tuples(self):
        told = notes(add(ONE, YES), [])
        self.assertIs(type(told), list)
        for note in told:
            self.assertIs(type(note), tuple)
            self.assertEqual(len(note), 2)

    def test_nothing_is_kept(self):
        expr = add(ONE, ONE)
        notes(expr, []).clear()
        self.assertEqual(notes(expr, []), [((0,), NUM), ((1,), NUM), ((), NUM)])


if __name__ == "__main__":
    unittest.main()
