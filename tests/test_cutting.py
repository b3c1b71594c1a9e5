"""Promise 12: pieces that keep copies, and their runs."""

import copy
import random
import unittest

from envways.cutting import pieces, run_pieces
from envways.errors import BadMost
from envways.programs import uses
from envways.running import ran
from model import (ENDLESS, FULL, FUNCTION_FAULT, NUMBER_FAULT, SELF_CALL, Nester, Writer, call, choice,
                   counting_down, fun, let, name, num, plus)
from traces import model_pieces

ADDER = fun(0, fun(1, plus(name(0), name(1))))


class Pieces(unittest.TestCase):
    def cut(self, program, rows):
        told = pieces(program)
        self.assertEqual(told, rows)
        self.assertIs(type(told), list)
        for row in told:
            self.need_tuples(row)
            self.assertIs(type(row[1]), tuple)

    def need_tuples(self, part):
        self.assertIn(type(part), (tuple, int, str, type(None)))
        if isinstance(part, tuple):
            for inner in part:
                self.need_tuples(inner)

    def test_a_program_without_funs_is_one_piece(self):
        self.cut(num(7), [(None, (), ("num", 7))])
        self.cut(plus(num(1), num(2)), [(None, (), ("plus", ("num", 1), ("num", 2)))])
        self.cut(choice(num(1), num(2), num(3)), [(None, (), ("if", ("num", 1), ("num", 2), ("num", 3)))])
        self.cut(call(num(1), num(2)), [(None, (), ("call", ("num", 1), ("num", 2)))])

    def test_a_let_has_its_site(self):
        self.cut(let(5, num(1), name(5)), [(None, (), ("let", 0, ("num", 1), ("own", 0)))])
        body = ("let", 0, ("num", 1), ("let", 1, ("own", 0), ("own", 1)))
        self.cut(let(5, num(1), let(5, name(5), name(5))), [(None, (), body)])
        body = ("let", 0, ("let", 1, ("num", 1), ("own", 1)), ("own", 0))
        self.cut(let(5, let(5, num(1), name(5)), name(5)), [(None, (), body)])

    def test_a_fun_that_uses_nothing(self):
        self.cut(fun(3, name(3)), [(None, (), ("make", 0, ())), (0, (), ("own", 0))])
        self.cut(fun(3, num(1)), [(None, (), ("make", 0, ())), (0, (), ("num", 1))])

    def test_a_fun_that_uses_what_is_bound_where_it_is_made(self):
        program = let(3, num(1), fun(4, plus(name(4), name(3))))
        whole = (None, (), ("let", 0, ("num", 1), ("make", 1, (("own", 0),))))
        self.cut(program, [whole, (1, (0,), ("plus", ("own", 1), ("copy", 0)))])

    def test_a_copy_that_is_copied_on(self):
        program = fun(0, fun(1, fun(2, plus(name(0), plus(name(1), name(2))))))
        self.cut(program, [
            (None, (), ("make", 0, ())),
            (0, (), ("make", 1, (("own", 0),))),
            (1, (0,), ("make", 2, (("copy", 0), ("own", 1)))),
            (2, (0, 1), ("plus", ("copy", 0), ("plus", ("copy", 1), ("own", 2)))),
        ])

    def test_copies_are_numbered_by_the_piece_that_has_them(self):
        # Site 1 is copy 1 of the fun with site 3, and copy 0 of the one with site 4.
        inner = fun(4, plus(name(1), name(4)))
        program = let(0, num(1), let(1, num(2), let(2, num(3), fun(3, call(inner, plus(name(2), name(0)))))))
        self.cut(program, [
            (None, (), ("let", 0, ("num", 1), ("let", 1, ("num", 2), ("let", 2, ("num", 3),
                        ("make", 3, (("own", 0), ("own", 1), ("own", 2))))))),
            (3, (0, 1, 2), ("call", ("make", 4, (("copy", 1),)), ("plus", ("copy", 2), ("copy", 0)))),
            (4, (1,), ("plus", ("copy", 0), ("own", 4))),
        ])

    def test_a_let_within_a_fun_is_its_own(self):
        program = fun(0, let(1, num(2), fun(2, plus(name(1), name(0)))))
        self.cut(program, [
            (None, (), ("make", 0, ())),
            (0, (), ("let", 1, ("num", 2), ("make", 2, (("own", 0), ("own", 1))))),
            (2, (0, 1), ("plus", ("copy", 1), ("copy", 0))),
        ])

    def test_a_name_bound_anew_within_and_beside(self):
        program = let(0, num(1), fun(1, let(0, name(0), name(0))))
        self.cut(program, [
            (None, (), ("let", 0, ("num", 1), ("make", 1, (("own", 0),)))),
            (1, (0,), ("let", 2, ("copy", 0), ("own", 2))),
        ])
        program = plus(fun(0, name(0)), fun(0, name(0)))
        whole = (None, (), ("plus", ("make", 0, ()), ("make", 1, ())))
        self.cut(program, [whole, (0, (), ("own", 0)), (1, (), ("own", 1))])

    def test_pieces_of_what_is_never_made(self):
        program = let(0, num(1), choice(num(0), fun(1, name(0)), num(5)))
        whole = (None, (), ("let", 0, ("num", 1), ("if", ("num", 0), ("make", 1, (("own", 0),)), ("num", 5))))
        self.cut(program, [whole, (1, (0,), ("copy", 0))])

    def test_each_fun_rising_with_what_uses_tells(self):
        for program in (FULL, ENDLESS, counting_down(9), ADDER, num(1)):
            told = pieces(program)
            self.assertEqual(told[0][:2], (None, ()))
            self.assertEqual([(site, list(used)) for site, used, _ in told[1:]], uses(program))

    def test_what_is_told_may_be_changed(self):
        program = let(2, ADDER, call(call(name(2), num(1)), num(2)))
        first = pieces(program)
        before = copy.deepcopy(first)
        first.reverse()
        first.pop()
        self.assertEqual(pieces(program), before)
        first.clear()
        self.assertEqual(pieces(program), before)

    def test_against_the_model(self):
        chance = random.Random(41)
        for writer in (Writer(chance), Nester(chance)):
            for _ in range(800):
                program = writer.program()
                self.cut(program, model_pieces(program))


class Runs(unittest.TestCase):
    def comes_to(self, program, told, most=60):
        self.assertEqual(ran(program, most), told)
        self.assertEqual(run_pieces(pieces(program), most), told)
        self.assertEqual(run_pieces(copy.deepcopy(pieces(program)), most), told)
        self.assertIs(type(run_pieces(pieces(program), most)), tuple)

    def test_numbers(self):
        self.comes_to(num(0), ("end", 0))
        self.comes_to(plus(num(999), num(999)), ("end", 998))
        self.comes_to(let(0, num(7), plus(name(0), name(0))), ("end", 14))
        self.comes_to(choice(num(0), num(1), num(2)), ("end", 2))
        self.comes_to(choice(num(5), num(1), num(2)), ("end", 1))
        self.comes_to(call(call(ADDER, num(2)), num(3)), ("end", 5))
        self.comes_to(FULL, ("end", 14))

    def test_functions(self):
        self.comes_to(SELF_CALL, ("function", 0))
        self.comes_to(call(ADDER, num(2)), ("function", 1))
        self.comes_to(let(0, num(1), choice(num(0), fun(1, name(0)), fun(1, name(0)))), ("function", 2))

    def test_faults(self):
        self.comes_to(NUMBER_FAULT, ("fault", "number"))
        self.comes_to(FUNCTION_FAULT, ("fault", "function"))
        self.comes_to(choice(SELF_CALL, num(1), num(2)), ("fault", "number"))
        self.comes_to(plus(SELF_CALL, FUNCTION_FAULT), ("fault", "function"))
        self.comes_to(call(num(1), NUMBER_FAULT), ("fault", "number"))
        self.comes_to(call(num(1), num(2)), ("fault", "function"), 0)

    def test_the_limit(self):
        for most in (0, 1, 59, 60):
            self.comes_to(ENDLESS, ("still",), most)
        self.comes_to(call(ADDER, num(2)), ("still",), 0)
        self.comes_to(call(ADDER, num(2)), ("function", 1), 1)
        self.comes_to(counting_down(29), ("end", 435), 60)
        self.comes_to(counting_down(29), ("still",), 59)
        self.comes_to(counting_down(30), ("still",), 60)

    def test_copies_are_those_of_the_making(self):
        both = plus(call(name(3), num(1)), call(name(4), num(2)))
        program = let(2, ADDER, let(3, call(name(2), num(10)), let(4, call(name(2), num(20)), both)))
        self.comes_to(program, ("end", 33))
        asks = fun(2, name(0))
        program = let(0, num(1), let(1, asks, let(0, num(5), call(name(1), num(9)))))
        self.comes_to(program, ("end", 1))

    def test_each_activation_binds_for_itself(self):
        again = call(call(name(0), name(0)), plus(name(1), num(999)))
        step = fun(0, fun(1, choice(name(1), plus(again, name(1)), num(0))))
        self.comes_to(let(2, step, call(call(name(2), name(2)), num(4))), ("end", 10))
        double = let(3, plus(name(1), name(1)), plus(call(name(0), name(3)), name(3)))
        inner = call(name(2), fun(4, name(4)))
        program = let(2, fun(0, fun(1, double)), call(call(name(2), inner), num(1)))
        self.comes_to(program, ("end", 10))

    def test_deep_within_calls_that_are_not_over(self):
        body = fun(0, plus(num(1), plus(num(1), plus(num(1), plus(num(1), call(name(0), name(0)))))))
        self.comes_to(let(0, body, call(name(0), name(0))), ("still",))

    def test_bad_most(self):
        told = pieces(call(ADDER, num(2)))
        for most in (-1, 61, 1000, True, False):
            with self.assertRaises(BadMost):
                run_pieces(told, most)
            with self.assertRaises(BadMost):
                run_pieces(pieces(NUMBER_FAULT), most)
        for most in range(61):
            self.assertEqual(run_pieces(pieces(num(1)), most), ("end", 1))

    def test_pieces_are_not_changed_and_not_kept(self):
        program = let(2, ADDER, call(call(name(2), num(1)), num(2)))
        some = pieces(program)
        before = copy.deepcopy(some)
        self.assertEqual(run_pieces(some, 60), ("end", 3))
        self.assertEqual(some, before)
        some[:] = pieces(num(8))
        self.assertEqual(run_pieces(some, 60), ("end", 8))
        self.assertEqual(run_pieces(before, 60), ("end", 3))
        self.assertEqual(ran(program, 60), ("end", 3))

    def test_pieces_of_several_programs_beside_one_another(self):
        programs = [num(1), ADDER, call(ADDER, num(2)), ENDLESS, NUMBER_FAULT, FULL, counting_down(5)]
        told = [pieces(program) for program in programs]
        for program, some in list(zip(programs, told)) + list(zip(programs, told))[::-1]:
            self.assertEqual(run_pieces(some, 60), ran(program, 60))

    def test_the_same_as_the_program(self):
        chance = random.Random(42)
        words = {}
        for writer in (Writer(chance), Nester(chance)):
            for _ in range(800):
                program = writer.program()
                some = copy.deepcopy(pieces(program))
                for most in (0, 1, 2, 3, 5, 60):
                    told = run_pieces(some, most)
                    self.assertEqual(told, ran(program, most), program)
                    words[told[0]] = words.get(told[0], 0) + 1
        for word in ("end", "function", "fault", "still"):
            self.assertGreater(words.get(word, 0), 100, words)


if __name__ == "__main__":
    unittest.main()
