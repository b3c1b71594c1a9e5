"""Promises 1 to 3: kinds of values, programs, sites and what funs use from outside."""

import random
import unittest

from envways.errors import BadProgram
from envways.programs import need_program, uses
from envways.running import ran
from model import (ENDLESS, Writer, call, choice, counting_down, fun, let, model_uses, name, num, plus,
                   parts_with_paths, sized)


def within_funs(many, inner):
    for _ in range(many):
        inner = fun(0, inner)
    return inner


class Programs(unittest.TestCase):
    def fits(self, program):
        self.assertIsNone(need_program(program))
        self.assertIsInstance(uses(program), list)
        self.assertIsInstance(ran(program, 60), tuple)

    def refused(self, program):
        with self.assertRaises(BadProgram):
            need_program(program)
        with self.assertRaises(BadProgram):
            uses(program)
        with self.assertRaises(BadProgram):
            ran(program, 60)

    def test_each_word(self):
        self.fits(("num", 5))
        self.fits(("plus", ("num", 1), ("num", 2)))
        self.fits(("let", 3, ("num", 1), ("name", 3)))
        self.fits(("fun", 3, ("name", 3)))
        self.fits(("call", ("fun", 3, ("name", 3)), ("num", 1)))
        self.fits(("if", ("num", 0), ("num", 1), ("num", 2)))

    def test_what_faults_or_goes_on_is_a_program(self):
        self.fits(call(num(1), num(2)))
        self.fits(ENDLESS)
        self.fits(counting_down(29))

    def test_numbers_from_0_to_999(self):
        self.fits(num(0))
        self.fits(num(999))
        self.refused(num(-1))
        self.refused(num(1000))
        self.refused(num(10 ** 30))

    def test_names_from_0_to_9(self):
        for k in range(10):
            self.fits(fun(k, name(k)))
            self.fits(let(k, num(1), name(k)))
        for k in (-1, 10, 999):
            self.refused(fun(k, num(1)))
            self.refused(fun(k, name(k)))
            self.refused(let(k, num(1), num(1)))
            self.refused(let(k, num(1), name(k)))

    def test_true_and_false_are_no_numbers(self):
        for worth in (True, False):
            self.refused(num(worth))
            self.refused(fun(worth, num(1)))
            self.refused(let(worth, num(1), num(1)))
            self.refused(fun(int(worth), name(worth)))
            self.refused(let(int(worth), num(1), name(worth)))

    def test_numbers_are_whole(self):
        for worth in (1.0, "1", "", (), ("num", 1), None):
            self.refused(num(worth))
            self.refused(fun(worth, num(1)))
            self.refused(let(worth, num(1), num(1)))
            self.refused(fun(1, name(worth)))

    def test_another_word(self):
        for word in ("", "Num", "num ", "add", "site", 0, 1, None, ("num",), ["num"], True):
            self.refused((word, 1))
            self.refused((word, num(1), num(2)))
            self.refused((word,))

    def test_no_word_at_all(self):
        self.refused(())
        self.refused((1,))
        self.refused((num(1),))
        self.refused((num(1), num(2)))

    def test_a_part_more_or_fewer(self):
        whole = [num(1), plus(num(1), num(2)), let(0, num(1), name(0)), fun(0, name(0)),
                 call(fun(0, name(0)), num(1)), choice(num(0), num(1), num(2))]
        for program in whole:
            self.fits(program)
            for many in range(len(program)):
                self.refused(program[:many])
            for more in (0, num(0), "num", ()):
                self.refused(program + (more,))
        self.refused(fun(0, ("name",)))
        self.refused(fun(0, ("name", 0, 0)))

    def test_parts_are_expressions(self):
        for part in (0, 1, "num", "", (), True, None, ("num",), [("num", 1)]):
            self.refused(plus(part, num(1)))
            self.refused(plus(num(1), part))
            self.refused(let(0, part, num(1)))
            self.refused(let(0, num(1), part))
            self.refused(fun(0, part))
            self.refused(call(part, num(1)))
            self.refused(call(fun(0, num(1)), part))
            self.refused(choice(part, num(1), num(1)))
            self.refused(choice(num(1), part, num(1)))
            self.refused(choice(num(0), part, num(1)))
            self.refused(choice(num(1), num(1), part))

    def test_a_fault_deep_within_is_found(self):
        self.refused(within_funs(6, plus(num(1), num(1000))))
        self.refused(within_funs(7, name(1)))

    def test_each_name_is_bound(self):
        self.refused(name(0))
        self.refused(fun(0, name(1)))
        self.refused(let(0, num(1), name(1)))
        self.refused(plus(fun(0, name(0)), name(0)))
        self.refused(plus(let(0, num(1), name(0)), name(0)))
        self.refused(call(fun(0, name(0)), name(0)))
        self.fits(fun(0, fun(1, plus(name(0), name(1)))))

    def test_a_let_does_not_bind_its_name_in_its_first_expression(self):
        self.refused(let(0, name(0), num(1)))
        self.refused(let(0, fun(1, name(0)), name(0)))
        self.refused(let(0, let(0, name(0), num(1)), name(0)))
        self.fits(let(0, num(1), let(0, name(0), name(0))))
        self.fits(fun(0, let(0, name(0), name(0))))

    def test_sixty_expressions_and_sixty_one(self):
        self.assertEqual(len(parts_with_paths(sized(60))), 60)
        self.fits(sized(60))
        self.fits(sized(59))
        self.refused(sized(61))
        self.refused(sized(62))
        self.refused(sized(100))

    def test_the_same_tuple_twice_is_two_expressions(self):
        half = sized(29)
        self.fits(plus(half, half))
        half = sized(30)
        self.refused(plus(half, half))

    def test_within_seven_others_and_within_eight(self):
        self.fits(within_funs(7, num(1)))
        self.refused(within_funs(8, num(1)))
        self.fits(within_funs(6, fun(1, name(1))))
        self.refused(within_funs(7, fun(1, name(1))))

    def test_depth_is_counted_through_each_part(self):
        one = num(1)
        steps = [lambda e: plus(e, one), lambda e: plus(one, e), lambda e: let(0, e, one),
                 lambda e: let(0, one, e), lambda e: fun(0, e), lambda e: call(e, one),
                 lambda e: call(one, e), lambda e: choice(e, one, one),
                 lambda e: choice(one, e, one), lambda e: choice(one, one, e)]
        for step in steps:
            program = one
            for _ in range(7):
                program = step(program)
            self.fits(program)
            self.refused(step(program))

    def test_far_too_deep_or_too_long(self):
        self.refused(within_funs(5000, num(1)))
        wide = num(1)
        for _ in range(60):
            wide = choice(wide, wide, wide)
        self.refused(wide)


class Uses(unittest.TestCase):
    def test_no_fun(self):
        self.assertEqual(uses(num(1)), [])
        self.assertEqual(uses(let(0, num(1), let(1, name(0), plus(name(0), name(1))))), [])

    def test_what_is_bound_in_the_fun_is_not_from_outside(self):
        self.assertEqual(uses(fun(0, name(0))), [(0, [])])
        self.assertEqual(uses(fun(0, let(1, num(1), plus(name(0), name(1))))), [(0, [])])
        self.assertEqual(uses(fun(0, num(1))), [(0, [])])

    def test_what_is_bound_around_the_fun(self):
        self.assertEqual(uses(let(0, num(1), fun(1, name(0)))), [(1, [0])])
        self.assertEqual(uses(fun(0, fun(1, name(0)))), [(0, []), (1, [0])])

    def test_a_name_in_a_fun_within_counts_for_those_around(self):
        program = fun(0, fun(1, fun(2, plus(name(0), name(1)))))
        self.assertEqual(uses(program), [(0, []), (1, [0]), (2, [0, 1])])

    def test_sites_rise_whatever_the_order_of_the_names_and_each_comes_once(self):
        body = plus(plus(name(7), name(9)), plus(name(8), name(7)))
        program = let(9, num(1), let(8, num(2), let(7, num(3), fun(0, body))))
        self.assertEqual(uses(program), [(3, [0, 1, 2])])

    def test_sites_rise_where_funs_lie_between(self):
        six = plus(plus(fun(0, num(1)), fun(0, num(1))), plus(fun(0, num(1)), fun(0, num(1))))
        six = plus(six, plus(fun(0, num(1)), fun(0, num(1))))
        inner = let(2, num(3), fun(0, plus(name(2), name(1))))
        program = let(0, num(1), let(1, six, inner))
        self.assertEqual(uses(program), [(at, []) for at in range(2, 8)] + [(9, [1, 8])])

    def test_sites_are_numbered_as_they_stand_in_the_text(self):
        # let 0, in its first expression fun 1; in its second let 2, fun 3 and fun 4.
        program = let(0, fun(0, name(0)), let(1, num(1), plus(fun(2, name(0)), fun(2, name(1)))))
        self.assertEqual(uses(program), [(1, []), (3, [0]), (4, [2])])

    def test_the_second_part_comes_after_all_that_is_in_the_first(self):
        program = call(fun(0, fun(1, name(0))), let(2, num(1), fun(3, name(2))))
        self.assertEqual(uses(program), [(0, []), (1, [0]), (3, [2])])

    def test_the_parts_of_if_in_their_order(self):
        program = let(0, num(1), choice(fun(1, name(0)), fun(1, name(1)), let(0, num(1), fun(1, name(0)))))
        self.assertEqual(uses(program), [(1, [0]), (2, []), (4, [3])])

    def test_a_name_bound_anew_within(self):
        self.assertEqual(uses(let(0, num(1), fun(0, name(0)))), [(1, [])])
        self.assertEqual(uses(let(0, num(1), let(0, num(2), fun(1, name(0))))), [(2, [1])])
        self.assertEqual(uses(let(0, num(1), fun(1, let(0, name(0), name(0))))), [(1, [0])])
        self.assertEqual(uses(let(0, num(1), fun(1, let(0, num(2), name(0))))), [(1, [])])
        self.assertEqual(uses(fun(0, fun(0, fun(1, name(0))))), [(0, []), (1, []), (2, [1])])

    def test_a_name_bound_anew_beside(self):
        program = let(0, num(1), plus(let(0, num(2), name(0)), fun(1, name(0))))
        self.assertEqual(uses(program), [(2, [0])])
        program = let(0, num(1), plus(fun(0, name(0)), fun(1, name(0))))
        self.assertEqual(uses(program), [(1, []), (2, [0])])

    def test_a_name_in_the_first_expression_of_a_let_of_its_number(self):
        program = let(0, num(1), let(0, fun(1, name(0)), fun(1, name(0))))
        self.assertEqual(uses(program), [(2, [0]), (3, [1])])

    def test_the_same_tuple_in_two_places_has_two_sites(self):
        both = fun(1, name(0))
        self.assertEqual(uses(let(0, num(1), plus(both, both))), [(1, [0]), (2, [0])])
        program = let(0, num(1), plus(both, let(0, num(2), both)))
        self.assertEqual(uses(program), [(1, [0]), (3, [2])])

    def test_the_kinds_of_values(self):
        told = uses(let(0, num(1), fun(1, name(0))))
        self.assertIs(type(told), list)
        self.assertIs(type(told[0]), tuple)
        self.assertIs(type(told[0][0]), int)
        self.assertIs(type(told[0][1]), list)
        self.assertIs(type(told[0][1][0]), int)

    def test_what_is_told_may_be_changed(self):
        program = let(0, num(1), plus(fun(1, name(0)), fun(1, name(0))))
        first = uses(program)
        first[0][1].append(99)
        self.assertEqual(first[1], (2, [0]))
        first.clear()
        self.assertEqual(uses(program), [(1, [0]), (2, [0])])
        nothing = uses(num(1))
        nothing.append(1)
        self.assertEqual(uses(num(1)), [])

    def test_against_the_model(self):
        writer = Writer(random.Random(3))
        for _ in range(1500):
            program = writer.program()
            self.assertEqual(uses(program), model_uses(program), program)


if __name__ == "__main__":
    unittest.main()
