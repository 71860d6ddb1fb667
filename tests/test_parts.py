import unittest

from samples import (
    NUM, TRUTH, add, call, case, choose, front, fun, less, listed, name, nil, num, one_of_each, truth,
)
from wellkind.errors import NoPart
from wellkind.parts import part_at, places, with_part

HUGE = 10 ** 100 - 1


def sample():
    return choose(
        less(num(1), name("x")),
        call(fun("y", NUM, add(name("y"), num(-HUGE))), num(HUGE)),
        case(NUM, "h", "t", nil(NUM), num(5), add(name("h"), num(7))),
    )


# Every place of the sample with its part, in the order of point 7.
SAMPLE_PARTS = [
    ((0, 0), num(1)),
    ((0, 1), name("x")),
    ((0,), less(num(1), name("x"))),
    ((1, 0, 0, 0), name("y")),
    ((1, 0, 0, 1), num(-HUGE)),
    ((1, 0, 0), add(name("y"), num(-HUGE))),
    ((1, 0), fun("y", NUM, add(name("y"), num(-HUGE)))),
    ((1, 1), num(HUGE)),
    ((1,), call(fun("y", NUM, add(name("y"), num(-HUGE))), num(HUGE))),
    ((2, 0), nil(NUM)),
    ((2, 1), num(5)),
    ((2, 2, 0), name("h")),
    ((2, 2, 1), num(7)),
    ((2, 2), add(name("h"), num(7))),
    ((2,), case(NUM, "h", "t", nil(NUM), num(5), add(name("h"), num(7)))),
    ((), sample()),
]

# Places that lead nowhere in the sample.
NOWHERE = [
    (3,), (4,), (1000,), (HUGE,), (-1,), (-2,), (-3,), (-HUGE,),
    (0, 2), (0, 3), (0, 99), (0, -1), (0, -2),
    (1, 0, 1), (1, 0, 7), (1, 0, -1),
    (1, 0, 0, 2), (1, 0, 0, -1), (1, -1, 0), (-1, 0), (3, 0),
    (0, 0, 0), (0, 0, 1), (0, 0, -1), (0, 0, 0, 0), (0, 1, 0),
    (1, 1, 0), (2, 0, 0), (2, 0, -1), (2, 2, 1, 0),
]


class PartAt(unittest.TestCase):
    def test_the_empty_place_leads_to_the_whole(self):
        for expr, count in one_of_each():
            with self.subTest(word=expr[0]):
                self.assertEqual(part_at(expr, ()), expr)

    def test_places_several_steps_deep(self):
        for place, part in SAMPLE_PARTS:
            with self.subTest(place=place):
                self.assertEqual(part_at(sample(), place), part)

    def test_own_parts_of_each_word(self):
        for expr, count in one_of_each():
            for number in range(count):
                with self.subTest(word=expr[0], number=number):
                    self.assertEqual(part_at(expr, (number,)), num(number + 1))

    def test_no_own_part_beyond_the_last_of_each_word(self):
        for expr, count in one_of_each():
            for number in [count, count + 1, count + 100, HUGE, -1, -count - 1, -HUGE]:
                with self.subTest(word=expr[0], number=number):
                    with self.assertRaises(NoPart):
                        part_at(expr, (number,))

    def test_places_that_lead_nowhere(self):
        for place in NOWHERE:
            with self.subTest(place=place):
                with self.assertRaises(NoPart):
                    part_at(sample(), place)

    def test_the_expression_is_as_it_was(self):
        expr = sample()
        part_at(expr, (1, 0, 0))
        self.assertEqual(expr, sample())


class WithPart(unittest.TestCase):
    def test_at_the_empty_place_the_other_part_is_all(self):
        for expr, count in one_of_each():
            with self.subTest(word=expr[0]):
                self.assertEqual(with_part(expr, (), name("z")), name("z"))

    def test_the_other_part_stands_at_the_place_and_all_else_as_it_was(self):
        other = front(truth(False), nil(TRUTH))
        for place, part in SAMPLE_PARTS:
            changed = with_part(sample(), place, other)
            for seen, before in SAMPLE_PARTS:
                with self.subTest(place=place, seen=seen):
                    if seen == place:
                        self.assertEqual(part_at(changed, seen), other)
                    elif seen[:len(place)] != place and place[:len(seen)] != seen:
                        self.assertEqual(part_at(changed, seen), before)
                    elif place[:len(seen)] == seen:
                        self.assertEqual(part_at(changed, seen)[:2], before[:2])
                        self.assertEqual(len(part_at(changed, seen)[2]), len(before[2]))

    def test_the_part_that_was_there_gives_the_same_expression(self):
        for place, part in SAMPLE_PARTS:
            with self.subTest(place=place):
                self.assertEqual(with_part(sample(), place, part), sample())

    def test_written_out(self):
        one, two, three, other = num(1), num(2), num(3), name("z")
        self.assertEqual(with_part(add(one, two), (0,), other), add(other, two))
        self.assertEqual(with_part(add(one, two), (1,), other), add(one, other))
        self.assertEqual(with_part(choose(one, two, three), (1,), other), choose(one, other, three))
        self.assertEqual(with_part(choose(one, two, three), (2,), other), choose(one, two, other))
        self.assertEqual(
            with_part(case(listed(NUM), "h", "t", one, two, three), (1,), other),
            case(listed(NUM), "h", "t", one, other, three),
        )
        self.assertEqual(with_part(fun("x", TRUTH, one), (0,), other), fun("x", TRUTH, other))
        self.assertEqual(
            with_part(call(fun("x", NUM, less(one, two)), three), (0, 0, 1), other),
            call(fun("x", NUM, less(one, other)), three),
        )

    def test_the_expression_is_still_made_of_tuples(self):
        changed = with_part(sample(), (1, 0, 0, 1), num(3))
        for place in places(changed):
            part = part_at(changed, place)
            self.assertIs(type(part), tuple)
            self.assertIs(type(part[1]), tuple)
            self.assertIs(type(part[2]), tuple)

    def test_places_that_lead_nowhere(self):
        for place in NOWHERE:
            with self.subTest(place=place):
                with self.assertRaises(NoPart):
                    with_part(sample(), place, num(1))

    def test_no_own_part_beyond_the_last_of_each_word(self):
        for expr, count in one_of_each():
            for number in [count, count + 1, count + 100, HUGE, -1, -HUGE]:
                with self.subTest(word=expr[0], number=number):
                    with self.assertRaises(NoPart):
                        with_part(expr, (number,), num(1))

    def test_what_is_handed_in_is_as_it_was(self):
        expr = sample()
        other = add(num(1), num(2))
        with_part(expr, (2, 2, 0), other)
        self.assertEqual(expr, sample())
        self.assertEqual(other, add(num(1), num(2)))


class Places(unittest.TestCase):
    def test_all_places_in_their_order(self):
        self.assertEqual(places(sample()), [place for place, part in SAMPLE_PARTS])

    def test_each_word(self):
        for expr, count in one_of_each():
            with self.subTest(word=expr[0]):
                self.assertEqual(places(expr), [(number,) for number in range(count)] + [()])

    def test_each_word_around_parts_with_own_parts(self):
        inner = add(num(1), num(2))
        for expr, count in one_of_each():
            whole = (expr[0], expr[1], tuple(inner for number in range(count)))
            due = []
            for number in range(count):
                due.extend([(number, 0), (number, 1), (number,)])
            with self.subTest(word=expr[0]):
                self.assertEqual(places(whole), due + [()])

    def test_equal_parts_are_told_once_for_each_place(self):
        inner = less(num(1), num(1))
        self.assertEqual(
            places(less(inner, inner)),
            [(0, 0), (0, 1), (0,), (1, 0), (1, 1), (1,), ()],
        )

    def test_a_list_of_tuples(self):
        told = places(sample())
        self.assertIs(type(told), list)
        for place in told:
            self.assertIs(type(place), tuple)

    def test_nothing_is_kept(self):
        expr = sample()
        told = places(expr)
        told.clear()
        self.assertEqual(places(expr), [place for place, part in SAMPLE_PARTS])
        self.assertEqual(expr, sample())


if __name__ == "__main__":
    unittest.main()
