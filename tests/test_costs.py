"""Promises 6 to 8: the three ways, what looks at names take by each, and how much room."""

import random
import unittest

from envways.costs import looked, roomed
from envways.errors import BadWay
from model import (ENDLESS, FULL, FUNCTION_FAULT, NUMBER_FAULT, SELF_CALL, Nester, Writer, call, choice,
                   counting_down, fun, let, name, num, parts_with_paths, plus)
from traces import WAYS, Trace

# Three funs, each within the one before; a let of activation 0 has them.
THREE = fun(0, fun(1, fun(2, plus(name(0), name(1)))))
THREE_CALLED = let(3, THREE, call(call(call(name(3), num(1)), num(2)), num(3)))


def called(callee, many):
    for n in range(many):
        callee = call(callee, num(n))
    return callee


class Costs(unittest.TestCase):
    def looks(self, program, flat, tied, shared, most=60):
        told = {way: looked(program, way, most) for way in WAYS}
        self.assertEqual(told, {"flat": flat, "tied": tied, "shared": shared})
        for worth in told.values():
            self.assertIs(type(worth), int)

    def rooms(self, program, flat, tied, shared, most=60):
        told = {way: roomed(program, way, most) for way in WAYS}
        self.assertEqual(told, {"flat": flat, "tied": tied, "shared": shared})
        for worth in told.values():
            self.assertIs(type(worth), int)


class Ways(unittest.TestCase):
    def test_the_three(self):
        for way in ("flat", "tied", "shared"):
            self.assertEqual(looked(num(1), way, 0), 0)
            self.assertIsInstance(roomed(num(1), way, 0), int)

    def test_other_texts(self):
        for way in ("", "Flat", "FLAT", "flat ", " tied", "tie", "shared\n", "flats", "house", "copies", "f", "0"):
            for ask in (looked, roomed):
                with self.assertRaises(BadWay):
                    ask(num(1), way, 60)
                with self.assertRaises(BadWay):
                    ask(THREE_CALLED, way, 60)


class Looks(Costs):
    def test_no_look(self):
        self.looks(num(1), 0, 0, 0)
        self.looks(SELF_CALL, 0, 0, 0)
        self.looks(let(0, num(1), num(2)), 0, 0, 0)
        self.looks(call(fun(0, num(1)), num(1)), 0, 0, 0)

    def test_making_a_function_is_no_look(self):
        self.looks(let(0, num(1), fun(1, plus(name(0), name(0)))), 0, 0, 0)

    def test_what_the_activation_itself_has_bound(self):
        self.looks(let(0, num(1), name(0)), 1, 1, 1)
        self.looks(let(0, num(1), let(1, name(0), plus(name(0), name(1)))), 3, 3, 3)
        self.looks(call(fun(0, plus(name(0), name(0))), num(1)), 2, 2, 2)
        self.looks(call(fun(0, let(1, name(0), name(1))), num(1)), 2, 2, 2)

    def test_its_own_let_that_stands_in_its_house_takes_1(self):
        self.looks(let(0, num(1), let(1, fun(2, name(0)), name(0))), 1, 1, 1)
        self.looks(let(0, num(1), let(1, fun(2, name(0)), name(1))), 1, 1, 1)

    def test_one_frame_up_and_the_first_house(self):
        self.looks(let(0, num(1), call(fun(1, name(0)), num(2))), 2, 2, 2)
        self.looks(call(call(fun(0, fun(1, name(0))), num(1)), num(2)), 2, 2, 2)
        self.looks(call(call(fun(0, fun(1, plus(name(0), name(1)))), num(1)), num(2)), 3, 3, 3)

    def test_two_frames_up_and_two_houses(self):
        # From activation 3, name 3 aside: name 0 is two frames and two houses up, name 1 one.
        self.looks(THREE_CALLED, 1 + 2 + 2, 1 + 3 + 2, 1 + 3 + 2)

    def test_a_house_that_stays_empty_is_not_gone_through(self):
        program = call(call(call(fun(0, fun(1, fun(2, name(0)))), num(1)), num(2)), num(3))
        self.looks(program, 2, 3, 2)
        four = let(9, fun(0, fun(1, fun(2, fun(3, name(0))))), called(name(9), 4))
        self.looks(four, 1 + 2, 1 + 4, 1 + 2)
        # Of the three in between, the one in the middle has a house, too.
        four = let(9, fun(0, fun(1, fun(2, fun(3, plus(name(0), name(1)))))), called(name(9), 4))
        self.looks(four, 1 + 2 + 2, 1 + 4 + 3, 1 + 3 + 2)
        five = let(9, fun(0, fun(1, fun(2, fun(3, fun(4, name(1)))))), called(name(9), 5))
        self.looks(five, 1 + 2, 1 + 4, 1 + 2)

    def test_the_house_of_the_running_activation_is_not_gone_through(self):
        # Activation 1 has a house, for name 1 is used by a fun in it, and looks at name 0.
        body = fun(1, let(2, fun(3, name(1)), name(0)))
        self.looks(let(0, num(1), call(body, num(2))), 2, 2, 2)
        # What is told is the way from the running activation, whatever called it.
        caller = fun(4, call(name(1), num(2)))
        program = let(0, num(1), let(1, fun(2, name(0)), call(caller, num(3))))
        self.looks(program, 2 + 2, 2 + 2, 2 + 2)

    def test_a_let_makes_a_house_for_what_is_used(self):
        # Activation 0 has let 0 in its house; the let of activation 1 is in that one's.
        inner = fun(1, let(2, num(5), fun(3, plus(name(0), name(2)))))
        program = let(0, num(1), call(call(inner, num(2)), num(3)))
        self.looks(program, 2 + 2, 3 + 2, 3 + 2)
        # The house is there for a let in a part of an if that isn't done, too.
        undone = choice(num(0), let(2, num(5), fun(3, name(2))), fun(3, name(0)))
        program = let(0, num(1), call(call(fun(1, undone), num(2)), num(3)))
        self.looks(program, 2, 3, 3)
        # Where no fun uses it there is none.
        undone = choice(num(0), let(2, num(5), fun(3, num(2))), fun(3, name(0)))
        program = let(0, num(1), call(call(fun(1, undone), num(2)), num(3)))
        self.looks(program, 2, 3, 2)

    def test_a_name_bound_anew_within_and_beside(self):
        self.looks(let(0, num(1), let(0, num(2), name(0))), 1, 1, 1)
        self.looks(let(0, num(1), call(fun(0, name(0)), num(2))), 1, 1, 1)
        self.looks(let(0, num(1), call(fun(1, let(0, name(0), name(0))), num(2))), 2 + 1, 2 + 1, 2 + 1)
        self.looks(let(0, num(1), plus(let(0, name(0), name(0)), name(0))), 3, 3, 3)

    def test_the_same_fun_in_several_activations(self):
        # Each inner look at name 0 finds the one activation that made that function.
        adder = fun(0, fun(1, plus(name(0), name(1))))
        both = plus(call(name(3), num(1)), call(name(4), num(2)))
        program = let(2, adder, let(3, call(name(2), num(10)), let(4, call(name(2), num(20)), both)))
        self.looks(program, 4 + 2 * 3, 4 + 2 * 3, 4 + 2 * 3)

    def test_counting_down(self):
        # Each of n steps looks at name 1 three times and at name 0 twice, the last one once.
        for n in (0, 1, 5, 29):
            told = 2 + n * (3 + 2 * 2) + 1
            self.looks(counting_down(n), told, told, told)

    def test_up_to_a_fault(self):
        self.looks(let(0, num(1), plus(name(0), plus(name(0), NUMBER_FAULT))), 2, 2, 2)
        self.looks(let(0, num(1), plus(NUMBER_FAULT, name(0))), 0, 0, 0)
        self.looks(let(0, SELF_CALL, plus(name(0), name(0))), 2, 2, 2)
        self.looks(let(0, SELF_CALL, choice(name(0), name(0), name(0))), 1, 1, 1)
        self.looks(let(0, num(1), call(name(0), name(0))), 2, 2, 2)
        self.looks(let(0, num(1), call(fun(1, plus(name(0), FUNCTION_FAULT)), name(0))), 3, 3, 3)

    def test_up_to_the_limit(self):
        for most in (0, 1, 2, 59, 60):
            self.looks(ENDLESS, 2 * most, 2 * most, 2 * most, most)
        self.looks(THREE_CALLED, 1, 1, 1, 0)
        self.looks(THREE_CALLED, 1, 1, 1, 2)
        self.looks(THREE_CALLED, 5, 6, 6, 3)

    def test_a_function_as_the_result(self):
        self.looks(let(0, SELF_CALL, name(0)), 1, 1, 1)
        self.looks(call(fun(0, fun(1, name(0))), num(1)), 0, 0, 0)

    def test_only_what_is_done_looks(self):
        self.looks(let(0, num(1), choice(num(0), plus(name(0), name(0)), name(0))), 1, 1, 1)
        self.looks(let(0, num(1), choice(num(1), plus(name(0), name(0)), name(0))), 2, 2, 2)


class Rooms(Costs):
    def test_no_function(self):
        # Activation 0 has a frame, and no house.
        self.rooms(num(1), 0, 1, 0)
        self.rooms(let(0, num(1), name(0)), 0, 2, 0)
        self.rooms(let(0, num(1), let(1, num(2), num(3))), 0, 3, 0)

    def test_a_function_without_copies(self):
        self.rooms(fun(0, name(0)), 1, 2 + 1, 2)
        self.rooms(plus(fun(0, num(1)), fun(0, num(1))), 2, 4 + 1, 4)

    def test_copies_frames_and_houses(self):
        self.rooms(let(0, num(1), fun(1, name(0))), 1 + 1, 2 + 1 + 1, 2 + 1 + 1)
        # A site that is used twice is copied once.
        self.rooms(let(0, num(1), fun(1, plus(name(0), name(0)))), 2, 4, 4)
        self.rooms(let(0, num(1), let(2, num(2), fun(1, plus(name(0), name(2))))), 3, 5, 5)
        # What no fun uses stands in the frame, and not in the house.
        self.rooms(let(0, num(1), let(2, num(2), fun(1, name(2)))), 2, 5, 4)
        self.rooms(let(0, num(1), let(2, num(2), fun(1, num(2)))), 1, 5, 2)

    def test_a_house_with_a_site_that_two_funs_use(self):
        two = plus(fun(1, name(0)), fun(1, name(0)))
        self.rooms(let(0, num(1), two), 2 + 2, 2 * 2 + 2, 2 * 2 + 2)

    def test_each_activation_has_a_frame(self):
        self.rooms(call(fun(0, name(0)), num(1)), 1, 2 + 1 + 2, 2)
        # Three functions, activations 0 to 3; the houses of activations 1 and 2.
        self.rooms(THREE_CALLED, 1 + 2 + 3, 3 * 2 + 2 + 2 + 2 + 2, 3 * 2 + 2 + 2)

    def test_each_function_that_is_made(self):
        maker = fun(0, fun(1, name(0)))
        program = let(2, maker, plus(call(call(name(2), num(1)), num(5)), call(call(name(2), num(2)), num(5))))
        # The maker, and two functions of one fun; activations 0 to 4, of which 1 and 3 have houses.
        self.rooms(program, 1 + 2 * 2, 3 * 2 + 2 + 4 * 2, 3 * 2 + 2 * 2)

    def test_a_site_that_a_fun_deeper_within_uses(self):
        # The fun between uses it from outside, too, and copies it.
        program = let(0, num(1), fun(1, fun(2, name(0))))
        self.rooms(program, 1 + 1, 2 + 2, 2 + 2)
        self.rooms(let(3, program, call(name(3), num(1))), 2 + 2, 2 * 2 + 3 + 2, 2 * 2 + 2)

    def test_lets_that_are_not_done_have_their_places(self):
        undone = let(0, num(1), fun(1, name(0)))
        self.rooms(choice(num(0), undone, num(5)), 0, 2, 2)
        self.rooms(choice(num(1), num(5), undone), 0, 2, 2)
        self.rooms(choice(num(0), let(0, num(1), name(0)), num(5)), 0, 2, 0)
        # A fun that isn't made shares what it would use.
        self.rooms(let(0, num(1), choice(num(0), fun(1, name(0)), num(5))), 0, 2, 2)

    def test_lets_within_funs_are_of_their_activations(self):
        self.rooms(fun(0, let(1, num(1), name(1))), 1, 3, 2)
        self.rooms(call(fun(0, let(1, num(1), name(1))), num(1)), 1, 2 + 1 + 3, 2)
        self.rooms(call(fun(0, let(1, num(1), fun(2, name(1)))), num(1)), 1 + 2, 4 + 1 + 3, 4 + 2)

    def test_lets_of_the_same_name_are_several_sites(self):
        self.rooms(let(0, num(1), let(0, num(2), fun(1, name(0)))), 2, 2 + 3, 2 + 2)
        beside = plus(let(0, num(1), name(0)), let(0, num(1), name(0)))
        self.rooms(beside, 0, 3, 0)

    def test_a_function_that_is_tied_to_nothing_takes_two_as_well(self):
        self.rooms(call(fun(0, fun(1, num(5))), num(5)), 2, 4 + 1 + 2, 4)

    def test_up_to_a_fault(self):
        self.rooms(NUMBER_FAULT, 1, 3, 2)
        self.rooms(plus(NUMBER_FAULT, SELF_CALL), 1, 3, 2)
        self.rooms(FUNCTION_FAULT, 0, 1, 0)
        self.rooms(call(num(1), let(0, num(1), fun(1, name(0)))), 2, 4, 4)
        self.rooms(call(fun(0, call(name(0), num(1))), num(1)), 1, 2 + 1 + 2, 2)

    def test_up_to_the_limit(self):
        for most in (0, 1, 2, 59, 60):
            # An activation that may not begin any more has no frame.
            self.rooms(ENDLESS, 2, 4 + 1 + 2 * most, 4, most)
        self.rooms(THREE_CALLED, 1, 2 + 2, 2, 0)
        self.rooms(THREE_CALLED, 1 + 2, 4 + 2 + 2, 4 + 2, 1)
        self.rooms(THREE_CALLED, 6, 6 + 3 * 2, 6 + 4, 2)
        self.rooms(THREE_CALLED, 6, 6 + 4 * 2, 6 + 4, 3)


class Whole(Costs):
    def test_sixty_expressions(self):
        self.assertEqual(len(parts_with_paths(FULL)), 60)
        # Activation 0 looks at name 0 fourteen times, each of the others at its own name.
        self.looks(FULL, 28, 28, 28)
        self.rooms(FULL, 1, 2 + 2 + 14 * 2, 2)

    def test_one_within_seven_others(self):
        deep = name(0)
        for k in range(6, -1, -1):
            deep = fun(k, deep)
        self.rooms(deep, 1, 3, 2)
        self.looks(deep, 0, 0, 0)
        deep = call(fun(0, call(fun(1, call(fun(2, plus(name(0), name(2))), num(3))), num(2))), num(1))
        # From activation 3, the house of activation 1 is the only one.
        self.looks(deep, 2 + 1, 3 + 1, 2 + 1)
        self.rooms(deep, 1 + 2 + 2, 3 * 2 + 1 + 3 * 2, 3 * 2 + 2)

    def test_against_the_model(self):
        chance = random.Random(21)
        rises = {"flat": 0, "shared": 0}
        for writer in (Writer(chance), Nester(chance)):
            for _ in range(500):
                program = writer.program()
                for most in (chance.choice((0, 1, 2, 3, 4)), 60):
                    trace = Trace(program, most)
                    told = {way: looked(program, way, most) for way in WAYS}
                    self.assertEqual(told, trace.looked, program)
                    self.assertEqual({way: roomed(program, way, most) for way in WAYS}, trace.roomed, program)
                    self.assertLessEqual(told["flat"], told["shared"])
                    self.assertLessEqual(told["shared"], told["tied"])
                    rises["flat"] += told["flat"] < told["shared"]
                    rises["shared"] += told["shared"] < told["tied"]
        # Programs in which all ways take the same would show little.
        self.assertGreater(min(rises.values()), 10, rises)


if __name__ == "__main__":
    unittest.main()
