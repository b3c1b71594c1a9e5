"""The interface: the refusals and their order, and where each function stands."""

import inspect
import unittest

from envways.costs import looked, roomed
from envways.cutting import pieces, run_pieces
from envways.errors import BadMost, BadProgram, BadWay, EnvError
from envways.holding import idle, kept, lasts
from envways.programs import need_program, uses
from envways.running import ran
from model import FULL, call, fun, let, name, num, plus, sized

BY_WAY = (looked, roomed, kept, idle)
BAD_PROGRAMS = (("num", 1000), ("num", True), ("num", False), ("num", -1), ("num",), ("number", 1), (),
                name(0), let(True, num(1), num(1)), fun(0, name(1)), fun(10, num(1)), fun(-1, num(1)),
                let(0, name(0), num(1)), plus(num(1), ()), call(num(1), ("num", 1, 1)), sized(61))
BAD_WAYS = ("", "Flat", "tied ", "sharing", "flat,tied", "none")
BAD_MOSTS = (-1, 61, 1000, True, False)


class Refusals(unittest.TestCase):
    def test_any_refusal_is_a_value_error(self):
        self.assertEqual(EnvError.__bases__, (ValueError,))

    def test_each_stands_straight_under_it(self):
        for kind in (BadProgram, BadWay, BadMost):
            self.assertEqual(kind.__bases__, (EnvError,))

    def refused(self, kind, ask, *handed):
        with self.assertRaises(EnvError) as caught:
            ask(*handed)
        self.assertIs(type(caught.exception), kind, (ask, handed))

    def test_a_program_that_is_none(self):
        for program in BAD_PROGRAMS:
            for ask in (need_program, uses, pieces):
                self.refused(BadProgram, ask, program)
            for ask in (ran, lasts):
                self.refused(BadProgram, ask, program, 60)
            for ask in BY_WAY:
                for way in ("flat", "tied", "shared"):
                    self.refused(BadProgram, ask, program, way, 60)

    def test_a_way_that_is_none(self):
        for way in BAD_WAYS:
            for ask in BY_WAY:
                self.refused(BadWay, ask, num(1), way, 60)
                self.refused(BadWay, ask, FULL, way, 0)

    def test_a_most_that_is_none(self):
        for most in BAD_MOSTS:
            for program in (num(1), FULL, plus(fun(0, num(1)), num(1))):
                for ask in (ran, lasts):
                    self.refused(BadMost, ask, program, most)
                for ask in BY_WAY:
                    for way in ("flat", "tied", "shared"):
                        self.refused(BadMost, ask, program, way, most)
                self.refused(BadMost, run_pieces, pieces(program), most)

    def test_of_two_or_three_the_first_is_refused(self):
        for program in BAD_PROGRAMS:
            for way in BAD_WAYS:
                for most in BAD_MOSTS:
                    for ask in BY_WAY:
                        self.refused(BadProgram, ask, program, way, most)
                        self.refused(BadProgram, ask, program, way, 60)
                        self.refused(BadProgram, ask, program, "flat", most)
                        self.refused(BadWay, ask, num(1), way, most)
                    self.refused(BadProgram, lasts, program, most)
                    self.refused(BadProgram, ran, program, most)

    def test_the_ends_of_what_fits(self):
        deep = num(1)
        for _ in range(7):
            deep = fun(0, deep)
        for program in (sized(60), FULL, deep, num(0), num(999), fun(9, name(9))):
            self.assertIsInstance(pieces(program), list)
            for most in (0, 60):
                self.assertIsInstance(lasts(program, most), list)
                self.assertEqual(run_pieces(pieces(program), most), ran(program, most))
                for way in ("flat", "tied", "shared"):
                    for ask in BY_WAY:
                        ask(program, way, most)
        too_deep = fun(0, deep)
        for ask in BY_WAY:
            self.refused(BadProgram, ask, too_deep, "flat", 60)
        self.refused(BadProgram, lasts, too_deep, 60)
        self.refused(BadProgram, pieces, too_deep)


class Interface(unittest.TestCase):
    def test_each_stands_in_its_file(self):
        listed = {
            "errors": (EnvError, BadProgram, BadWay, BadMost),
            "programs": (need_program, uses),
            "running": (ran,),
            "costs": (looked, roomed),
            "holding": (kept, idle, lasts),
            "cutting": (pieces, run_pieces),
        }
        for file, things in listed.items():
            for thing in things:
                self.assertEqual(thing.__module__, "envways." + file)

    def test_names_of_arguments_and_their_order(self):
        listed = {("program",): (need_program, uses, pieces), ("program", "most"): (ran, lasts),
                  ("program", "way", "most"): BY_WAY, ("some", "most"): (run_pieces,)}
        for names, asks in listed.items():
            for ask in asks:
                self.assertEqual(tuple(inspect.signature(ask).parameters), names)

    def test_arguments_may_be_named(self):
        self.assertIsNone(need_program(program=("num", 1)))
        self.assertEqual(uses(program=("num", 1)), [])
        self.assertEqual(ran(program=("num", 1), most=0), ("end", 1))
        self.assertEqual(looked(program=("num", 1), way="flat", most=0), 0)
        self.assertEqual(roomed(program=("num", 1), way="tied", most=0), 1)
        self.assertEqual(kept(program=("num", 1), way="flat", most=0), [])
        self.assertEqual(idle(program=("num", 1), way="flat", most=0), [])
        self.assertEqual(lasts(program=("num", 1), most=0), [])
        self.assertEqual(pieces(program=("num", 1)), [(None, (), ("num", 1))])
        self.assertEqual(run_pieces(some=[(None, (), ("num", 1))], most=0), ("end", 1))


if __name__ == "__main__":
    unittest.main()
