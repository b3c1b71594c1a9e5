"""Promises 4 and 5: what expressions come to, in which order, and how runs end."""

import random
import unittest

from envways.errors import BadMost, BadProgram
from envways.running import ran
from model import (ENDLESS, FUNCTION_FAULT, NUMBER_FAULT, SELF_CALL, Writer, call, choice, counting_down,
                   fun, let, model_ran, name, num, plus)

NUMBER = ("fault", "number")
FUNCTION = ("fault", "function")
STILL = ("still",)


class Runs(unittest.TestCase):
    def comes_to(self, program, told, most=60):
        self.assertEqual(ran(program, most), told)


class Worths(Runs):
    def test_numbers(self):
        self.comes_to(num(0), ("end", 0))
        self.comes_to(num(999), ("end", 999))

    def test_plus_is_the_rest_by_1000(self):
        self.comes_to(plus(num(1), num(2)), ("end", 3))
        self.comes_to(plus(num(500), num(499)), ("end", 999))
        self.comes_to(plus(num(500), num(500)), ("end", 0))
        self.comes_to(plus(num(999), num(999)), ("end", 998))
        self.comes_to(plus(plus(num(999), num(999)), num(999)), ("end", 997))

    def test_let(self):
        self.comes_to(let(0, num(7), name(0)), ("end", 7))
        self.comes_to(let(9, num(7), plus(name(9), name(9))), ("end", 14))
        self.comes_to(let(0, num(7), num(1)), ("end", 1))

    def test_if(self):
        self.comes_to(choice(num(0), num(1), num(2)), ("end", 2))
        self.comes_to(choice(num(1), num(1), num(2)), ("end", 1))
        self.comes_to(choice(num(999), num(1), num(2)), ("end", 1))
        self.comes_to(choice(plus(num(999), num(1)), num(1), num(2)), ("end", 2))

    def test_call(self):
        self.comes_to(call(fun(0, name(0)), num(4)), ("end", 4))
        self.comes_to(call(fun(0, plus(name(0), name(0))), num(4)), ("end", 8))
        self.comes_to(call(call(fun(0, fun(1, name(0))), num(4)), num(5)), ("end", 4))
        self.comes_to(call(call(fun(0, fun(1, name(1))), num(4)), num(5)), ("end", 5))

    def test_functions_are_told_by_their_sites(self):
        self.comes_to(fun(0, num(1)), ("function", 0))
        self.comes_to(let(0, num(1), fun(0, num(1))), ("function", 1))
        self.comes_to(let(0, fun(1, num(1)), name(0)), ("function", 1))
        self.comes_to(call(fun(0, fun(1, num(1))), num(1)), ("function", 1))
        self.comes_to(choice(num(0), fun(0, num(1)), fun(0, num(1))), ("function", 1))
        self.comes_to(call(fun(0, name(0)), fun(0, name(0))), ("function", 1))

    def test_the_same_tuple_in_two_places_is_two_functions(self):
        same = fun(0, name(0))
        self.comes_to(choice(num(1), same, same), ("function", 0))
        self.comes_to(choice(num(0), same, same), ("function", 1))

    def test_the_kinds_of_values(self):
        for program in (num(1), SELF_CALL, NUMBER_FAULT, ENDLESS):
            self.assertIs(type(ran(program, 5)), tuple)
        self.assertIs(type(ran(num(1), 0)[1]), int)
        self.assertIs(type(ran(SELF_CALL, 0)[1]), int)


class Bindings(Runs):
    def test_a_name_bound_anew_within(self):
        self.comes_to(let(0, num(1), let(0, num(2), name(0))), ("end", 2))
        self.comes_to(let(0, num(1), let(0, plus(name(0), num(4)), name(0))), ("end", 5))
        self.comes_to(let(0, num(1), call(fun(0, name(0)), num(2))), ("end", 2))
        self.comes_to(call(fun(0, let(0, plus(name(0), num(1)), name(0))), num(2)), ("end", 3))

    def test_a_name_bound_anew_beside(self):
        self.comes_to(let(0, num(1), plus(let(0, num(2), name(0)), name(0))), ("end", 3))
        self.comes_to(let(0, num(1), plus(call(fun(0, name(0)), num(5)), name(0))), ("end", 6))
        self.comes_to(let(0, num(1), let(1, let(0, num(2), name(0)), plus(name(0), name(1)))), ("end", 3))

    def test_a_function_looks_where_it_was_made_not_where_it_is_called(self):
        asks = fun(2, name(0))
        program = let(0, num(1), let(1, asks, let(0, num(5), call(name(1), num(9)))))
        self.comes_to(program, ("end", 1))
        caller = fun(0, call(name(1), num(9)))
        self.comes_to(let(0, num(1), let(1, asks, call(caller, num(5)))), ("end", 1))

    def test_a_function_outlives_the_activation_that_made_it(self):
        adder = fun(0, fun(1, plus(name(0), name(1))))
        both = plus(call(name(3), num(1)), call(name(4), num(2)))
        program = let(2, adder, let(3, call(name(2), num(10)), let(4, call(name(2), num(20)), both)))
        self.comes_to(program, ("end", 33))

    def test_a_function_keeps_a_let_of_the_activation_that_made_it(self):
        maker = fun(0, let(1, plus(name(0), num(100)), fun(2, plus(name(1), name(2)))))
        both = plus(call(name(4), num(1)), call(name(5), num(2)))
        program = let(3, maker, let(4, call(name(3), num(1)), let(5, call(name(3), num(2)), both)))
        self.comes_to(program, ("end", 206))

    def test_names_from_several_funs_around(self):
        body = plus(plus(name(0), name(1)), name(2))
        made = fun(0, fun(1, fun(2, body)))
        called = call(call(call(name(3), num(1)), num(20)), num(300))
        self.comes_to(let(3, made, called), ("end", 321))

    def test_each_activation_binds_for_itself(self):
        again = call(call(name(0), name(0)), plus(name(1), num(999)))
        # The name is looked at after the inner activations have bound the same site.
        step = fun(0, fun(1, choice(name(1), plus(again, name(1)), num(0))))
        self.comes_to(let(2, step, call(call(name(2), name(2)), num(4))), ("end", 10))

    def test_a_let_in_an_activation_that_begins_again_within(self):
        # The outer activation looks at its let after the inner one has done the same let.
        double = let(3, plus(name(1), name(1)), plus(call(name(0), name(3)), name(3)))
        inner = call(name(2), fun(4, name(4)))
        program = let(2, fun(0, fun(1, double)), call(call(name(2), inner), num(1)))
        self.comes_to(program, ("end", 10))


class Faults(Runs):
    def test_plus_takes_no_function(self):
        self.comes_to(plus(SELF_CALL, num(1)), NUMBER)
        self.comes_to(plus(num(1), SELF_CALL), NUMBER)
        self.comes_to(plus(SELF_CALL, SELF_CALL), NUMBER)

    def test_if_takes_no_function(self):
        self.comes_to(choice(SELF_CALL, num(1), num(2)), NUMBER)
        self.comes_to(choice(SELF_CALL, FUNCTION_FAULT, FUNCTION_FAULT), NUMBER)

    def test_a_number_is_not_called(self):
        self.comes_to(call(num(0), num(1)), FUNCTION)
        self.comes_to(call(num(1), SELF_CALL), FUNCTION)
        self.comes_to(let(0, num(1), call(name(0), num(1))), FUNCTION)

    def test_a_fault_ends_the_whole_run(self):
        self.comes_to(let(0, NUMBER_FAULT, num(1)), NUMBER)
        self.comes_to(call(fun(0, num(1)), FUNCTION_FAULT), FUNCTION)
        self.comes_to(call(fun(0, plus(name(0), num(1))), SELF_CALL), NUMBER)
        self.comes_to(call(fun(0, call(name(0), num(1))), num(1)), FUNCTION)

    def test_what_is_not_done_makes_no_fault(self):
        self.comes_to(choice(num(1), num(5), NUMBER_FAULT), ("end", 5))
        self.comes_to(choice(num(0), NUMBER_FAULT, num(6)), ("end", 6))
        self.comes_to(choice(num(0), ENDLESS, num(6)), ("end", 6), 0)
        self.comes_to(fun(0, NUMBER_FAULT), ("function", 0))
        self.comes_to(let(0, fun(0, FUNCTION_FAULT), num(2)), ("end", 2))

    def test_functions_may_be_bound_passed_and_chosen(self):
        self.comes_to(let(0, SELF_CALL, num(2)), ("end", 2))
        self.comes_to(call(fun(0, num(3)), SELF_CALL), ("end", 3))
        self.comes_to(choice(num(1), SELF_CALL, num(3)), ("function", 0))


class Order(Runs):
    def test_the_first_part_is_done_first(self):
        for build in (plus, call, lambda one, two: let(0, one, two)):
            self.comes_to(build(NUMBER_FAULT, FUNCTION_FAULT), NUMBER)
            self.comes_to(build(FUNCTION_FAULT, NUMBER_FAULT), FUNCTION)
            self.comes_to(build(ENDLESS, FUNCTION_FAULT), STILL)
            self.comes_to(build(FUNCTION_FAULT, ENDLESS), FUNCTION)
        self.comes_to(choice(NUMBER_FAULT, FUNCTION_FAULT, FUNCTION_FAULT), NUMBER)
        self.comes_to(choice(FUNCTION_FAULT, NUMBER_FAULT, NUMBER_FAULT), FUNCTION)

    def test_plus_does_both_ahead_of_its_own_fault(self):
        self.comes_to(plus(SELF_CALL, FUNCTION_FAULT), FUNCTION)
        self.comes_to(plus(SELF_CALL, ENDLESS), STILL)
        self.comes_to(plus(FUNCTION_FAULT, SELF_CALL), FUNCTION)

    def test_call_does_both_ahead_of_its_own_fault(self):
        self.comes_to(call(num(1), NUMBER_FAULT), NUMBER)
        self.comes_to(call(num(1), ENDLESS), STILL)

    def test_call_does_both_ahead_of_the_body(self):
        self.comes_to(call(fun(0, FUNCTION_FAULT), NUMBER_FAULT), NUMBER)
        self.comes_to(call(fun(0, NUMBER_FAULT), FUNCTION_FAULT), FUNCTION)

    def test_if_does_only_one_of_two(self):
        self.comes_to(choice(num(1), FUNCTION_FAULT, NUMBER_FAULT), FUNCTION)
        self.comes_to(choice(num(0), FUNCTION_FAULT, NUMBER_FAULT), NUMBER)

    def test_let_does_its_second_after_its_first(self):
        self.comes_to(let(0, num(1), NUMBER_FAULT), NUMBER)


class Most(Runs):
    def test_none_may_begin(self):
        self.comes_to(num(1), ("end", 1), 0)
        self.comes_to(fun(0, ENDLESS), ("function", 0), 0)
        self.comes_to(call(fun(0, num(1)), num(1)), STILL, 0)
        self.comes_to(call(fun(0, num(1)), num(1)), ("end", 1), 1)

    def test_to_call_a_number_begins_none(self):
        self.comes_to(call(num(1), num(2)), FUNCTION, 0)
        self.comes_to(call(call(fun(0, num(1)), num(1)), num(2)), FUNCTION, 1)

    def test_a_fault_ahead_of_the_limit_and_behind(self):
        one = call(fun(0, num(1)), num(1))
        self.comes_to(plus(NUMBER_FAULT, one), NUMBER, 0)
        self.comes_to(plus(one, NUMBER_FAULT), STILL, 0)
        self.comes_to(plus(one, NUMBER_FAULT), NUMBER, 1)
        self.comes_to(plus(one, SELF_CALL), NUMBER, 1)
        self.comes_to(call(one, one), STILL, 1)
        self.comes_to(call(one, one), FUNCTION, 2)

    def test_just_as_many_as_may_and_one_more(self):
        for n in range(30):
            told = ("end", n * (n + 1) // 2 % 1000)
            self.comes_to(counting_down(n), told, 2 * n + 2)
            self.comes_to(counting_down(n), STILL, 2 * n + 1)

    def test_sixty_and_sixty_one(self):
        self.comes_to(counting_down(29), ("end", 435), 60)
        self.comes_to(counting_down(30), STILL, 60)
        one_more = counting_down(29, fun(0, name(0)))
        self.comes_to(one_more, STILL, 60)
        one_fewer = counting_down(28, fun(0, name(0)))
        self.comes_to(one_fewer, ("end", 406), 60)
        self.comes_to(one_fewer, ("end", 406), 59)
        self.comes_to(one_fewer, STILL, 58)

    def test_what_never_ends(self):
        for most in range(61):
            self.comes_to(ENDLESS, STILL, most)

    def test_calls_one_beside_the_other_are_all_counted(self):
        three = let(0, fun(1, name(1)), plus(call(name(0), num(1)), plus(call(name(0), num(2)), call(name(0), num(3)))))
        self.comes_to(three, ("end", 6), 3)
        self.comes_to(three, STILL, 2)

    def test_deep_within_calls_that_are_not_over(self):
        again = call(name(0), name(0))
        body = fun(0, plus(num(1), plus(num(1), plus(num(1), plus(num(1), again)))))
        self.comes_to(let(0, body, call(name(0), name(0))), STILL)

    def test_bad_most(self):
        for most in (-1, 61, 1000, True, False, None, "1", "", 1.0, (), (1,), [1]):
            with self.assertRaises(BadMost):
                ran(num(1), most)
        for most in range(61):
            self.comes_to(num(1), ("end", 1), most)

    def test_of_two_that_are_none_the_first_is_refused(self):
        for most in (-1, 61, True, None):
            with self.assertRaises(BadProgram):
                ran(("num", 1000), most)
            with self.assertRaises(BadProgram):
                ran(name(0), most)
        with self.assertRaises(BadMost):
            ran(NUMBER_FAULT, 61)
        with self.assertRaises(BadProgram):
            ran(("num",), 60)


class AgainstTheModel(unittest.TestCase):
    def test_the_same_endings(self):
        writer = Writer(random.Random(11))
        words = {}
        for _ in range(3000):
            program = writer.program()
            for most in (0, 1, 2, 3, 5, 60):
                told = ran(program, most)
                self.assertEqual(told, model_ran(program, most), program)
                words[told[0]] = words.get(told[0], 0) + 1
        # A source that only wrote one kind of run would show nothing.
        for word in ("end", "function", "fault", "still"):
            self.assertGreater(words.get(word, 0), 100, words)

    def test_runs_do_not_touch_one_another(self):
        writer = Writer(random.Random(12))
        programs = [writer.program() for _ in range(200)]
        first = [ran(program, 60) for program in programs]
        for program, told in zip(programs[::-1], first[::-1]):
            self.assertEqual(ran(program, 60), told)


if __name__ == "__main__":
    unittest.main()
