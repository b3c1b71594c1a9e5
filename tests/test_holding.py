"""Promises 9 to 11: what a result holds, what of that is idle, and when bindings are looked at last."""

import random
import unittest

from envways.errors import BadWay
from envways.holding import idle, kept, lasts
from model import (ENDLESS, FULL, FUNCTION_FAULT, NUMBER_FAULT, SELF_CALL, Nester, Writer, call, choice,
                   counting_down, fun, let, name, num, plus)
from traces import WAYS, Trace

# Site 0 is used by the result, 1 by another function, 2 by no fun.
THREE_LETS = let(0, num(1), let(1, num(2), let(2, fun(3, name(1)), fun(3, name(0)))))


class Held(unittest.TestCase):
    def holds(self, program, flat, tied, shared, most=60):
        told = {way: kept(program, way, most) for way in WAYS}
        self.assertEqual(told, {"flat": flat, "tied": tied, "shared": shared})
        for way in WAYS:
            rest = [binding for binding in told[way] if binding not in flat]
            self.assertEqual(idle(program, way, most), rest)
            for rows in (told[way], idle(program, way, most)):
                self.assertIs(type(rows), list)
                for row in rows:
                    self.assertIs(type(row), tuple)
                    self.assertEqual([type(part) for part in row], [int, int])

    def nothing(self, program, most=60):
        self.holds(program, [], [], [], most)


class Kept(Held):
    def test_a_number_holds_nothing(self):
        self.nothing(num(1))
        self.nothing(let(0, num(1), name(0)))
        self.nothing(let(0, num(1), let(1, fun(2, name(0)), call(name(1), num(0)))))
        self.nothing(FULL)
        self.nothing(counting_down(29))

    def test_without_a_result_nothing_is_held(self):
        held = fun(1, name(0))
        self.nothing(let(0, num(1), plus(held, num(1))))
        self.nothing(let(0, num(1), plus(num(1), held)))
        self.nothing(let(0, num(1), choice(held, held, held)))
        self.nothing(let(0, num(1), call(name(0), held)))
        self.nothing(let(0, num(1), call(held, NUMBER_FAULT)))
        for most in (0, 1, 60):
            self.nothing(ENDLESS, most)
        program = let(0, num(1), call(fun(2, held), num(2)))
        self.nothing(program, 0)
        self.holds(program, [(0, 0)], [(0, 0), (1, 1)], [(0, 0)], 1)

    def test_a_fun_that_uses_nothing_from_outside(self):
        self.nothing(fun(0, name(0)))
        self.holds(let(0, num(1), fun(1, name(1))), [], [(0, 0)], [])
        self.holds(let(0, num(1), fun(0, name(0))), [], [(0, 0)], [])

    def test_copies_frames_and_houses(self):
        self.holds(let(0, num(1), fun(1, name(0))), [(0, 0)], [(0, 0)], [(0, 0)])
        self.holds(THREE_LETS, [(0, 0)], [(0, 0), (0, 1), (0, 2)], [(0, 0), (0, 1)])
        program = let(0, num(1), let(1, num(2), fun(2, plus(name(1), name(0)))))
        self.holds(program, [(0, 0), (0, 1)], [(0, 0), (0, 1)], [(0, 0), (0, 1)])

    def test_idle_by_each_way(self):
        self.assertEqual(idle(THREE_LETS, "flat", 60), [])
        self.assertEqual(idle(THREE_LETS, "shared", 60), [(0, 1)])
        self.assertEqual(idle(THREE_LETS, "tied", 60), [(0, 1), (0, 2)])

    def test_what_is_used_when_the_activation_is_over(self):
        self.holds(call(fun(0, fun(1, name(0))), num(5)), [(1, 0)], [(1, 0)], [(1, 0)])
        self.holds(call(fun(0, let(2, name(0), fun(1, name(2)))), num(5)), [(1, 1)], [(1, 0), (1, 1)], [(1, 1)])

    def test_frames_further_up(self):
        made = fun(0, fun(1, fun(2, plus(name(0), name(1)))))
        program = let(3, made, call(call(name(3), num(1)), num(2)))
        self.holds(program, [(1, 1), (2, 2)], [(0, 0), (1, 1), (2, 2)], [(1, 1), (2, 2)])
        # The last fun uses the outermost name alone.
        made = fun(0, fun(1, fun(2, name(0))))
        self.holds(call(call(made, num(1)), num(2)), [(1, 0)], [(1, 0), (2, 1)], [(1, 0)])

    def test_a_house_that_stays_empty_is_gone_past(self):
        # Activation 2 has no house: its function is tied to that of activation 1.
        made = fun(0, fun(1, let(4, num(7), fun(2, name(0)))))
        self.holds(call(call(made, num(1)), num(2)), [(1, 0)], [(1, 0), (2, 1), (2, 2)], [(1, 0)])

    def test_tied_to_nothing(self):
        self.holds(call(fun(0, fun(1, num(5))), num(5)), [], [(1, 0)], [])
        # Activations 1 and 2 have no houses, nor has activation 0.
        self.holds(call(call(fun(0, fun(1, fun(2, num(5)))), num(5)), num(6)), [], [(1, 0), (2, 1)], [])

    def test_a_house_holds_what_other_funs_use(self):
        # The function that uses site 0 is never made, or is over.
        program = let(0, num(1), choice(num(0), fun(1, name(0)), fun(1, num(5))))
        self.holds(program, [], [(0, 0)], [(0, 0)])
        program = let(0, num(1), let(1, call(fun(2, name(0)), num(2)), fun(2, num(5))))
        self.holds(program, [], [(0, 0), (0, 1)], [(0, 0)])
        # A fun within the result's own fun uses it, so this one does, too.
        program = let(0, num(1), fun(1, fun(2, name(0))))
        self.holds(program, [(0, 0)], [(0, 0)], [(0, 0)])

    def test_bindings_through_bindings(self):
        program = let(0, num(1), let(1, fun(2, name(0)), fun(2, call(name(1), name(2)))))
        self.holds(program, [(0, 0), (0, 1)], [(0, 0), (0, 1)], [(0, 0), (0, 1)])
        # A chain over activations: each function is bound in the next one's.
        wrap = fun(0, fun(1, call(name(0), name(1))))
        twice = call(name(2), call(name(2), fun(3, name(3))))
        program = let(2, wrap, twice)
        self.holds(program, [(1, 1), (2, 1)], [(0, 0), (1, 1), (2, 1)], [(1, 1), (2, 1)])

    def test_bindings_through_what_is_idle(self):
        # By "tied" the result holds site 1, and through it what activation 1 has bound.
        maker = fun(0, fun(2, name(0)))
        program = let(1, call(maker, num(5)), fun(3, num(7)))
        self.holds(program, [], [(0, 0), (1, 1)], [])
        # By "shared" likewise, for another fun uses it.
        program = let(1, call(maker, num(5)), let(4, fun(3, name(1)), fun(3, num(7))))
        self.holds(program, [], [(0, 0), (0, 3), (1, 1)], [(0, 0), (1, 1)])

    def test_functions_that_hold_one_another(self):
        self.holds(let(0, fun(1, num(1)), name(0)), [], [(0, 0)], [])
        program = let(0, fun(1, num(1)), let(2, fun(1, name(0)), name(0)))
        self.holds(program, [], [(0, 0), (0, 2)], [(0, 0)])
        program = let(0, fun(1, num(1)), let(2, fun(1, name(0)), let(3, fun(1, name(2)), name(3))))
        self.holds(program, [(0, 0), (0, 2)], [(0, 0), (0, 2), (0, 4)], [(0, 0), (0, 2)])

    def test_numbers_hold_nothing_more(self):
        # Site 0 is bound to what a call came to; the activation behind it isn't held.
        program = let(0, call(fun(1, name(1)), num(5)), fun(2, name(0)))
        self.holds(program, [(0, 0)], [(0, 0)], [(0, 0)])

    def test_lets_that_are_not_done_are_not_held(self):
        undone = choice(num(0), let(0, num(1), fun(1, name(0))), fun(1, num(5)))
        self.nothing(undone)
        program = let(2, num(3), choice(num(0), let(0, num(1), fun(1, name(0))), fun(1, name(2))))
        self.holds(program, [(0, 0)], [(0, 0)], [(0, 0)])
        # Done ahead of the function or behind it, by the end it is bound.
        behind = let(0, fun(1, name(1)), let(2, num(5), let(3, fun(4, name(2)), name(0))))
        self.holds(behind, [], [(0, 0), (0, 2), (0, 3)], [(0, 2)])

    def test_the_same_fun_made_in_two_activations(self):
        maker = fun(0, fun(1, name(0)))
        program = let(2, maker, let(3, call(name(2), num(10)), let(4, call(name(2), num(20)), name(3))))
        # Activation 1 has what the first one uses, 2 what the second one does.
        self.holds(program, [(1, 1)], [(0, 0), (0, 3), (0, 4), (1, 1), (2, 1)], [(1, 1)])
        program = let(2, maker, let(3, call(name(2), num(10)), let(4, call(name(2), num(20)), name(4))))
        self.holds(program, [(2, 1)], [(0, 0), (0, 3), (0, 4), (1, 1), (2, 1)], [(2, 1)])

    def test_a_name_bound_anew(self):
        self.holds(let(0, num(1), let(0, num(2), fun(1, name(0)))), [(0, 1)], [(0, 0), (0, 1)], [(0, 1)])
        beside = plus(let(0, num(1), name(0)), num(1))
        program = let(1, beside, let(0, num(2), fun(1, name(0))))
        self.holds(program, [(0, 2)], [(0, 0), (0, 1), (0, 2)], [(0, 2)])

    def test_rising_by_activations_and_then_by_sites(self):
        # Each call of name 4 wraps twice: activations 2, 3, 5, 6 and so on bind what they wrap.
        wrap = fun(0, fun(1, call(name(0), name(1))))
        twice = fun(5, call(name(2), call(name(2), name(5))))
        wrapped = fun(3, name(3))
        for _ in range(4):
            wrapped = call(name(4), wrapped)
        rows = [(at, 1) for at in (2, 3, 5, 6, 8, 9, 11, 12)]
        program = let(2, wrap, let(4, twice, wrapped))
        self.holds(program, rows, [(0, 0), (0, 3)] + rows, [(0, 0)] + rows)
        used = plus(plus(name(9), name(8)), name(1))
        lets = let(1, SELF_CALL, let(8, num(1), let(9, num(1), fun(7, used))))
        self.holds(lets, [(0, 0), (0, 2), (0, 3)], [(0, 0), (0, 2), (0, 3)], [(0, 0), (0, 2), (0, 3)])

    def test_other_texts(self):
        for way in ("", "Flat", "tied ", "house", "shares", "flat,tied"):
            for ask in (kept, idle):
                with self.assertRaises(BadWay):
                    ask(num(1), way, 60)
                with self.assertRaises(BadWay):
                    ask(THREE_LETS, way, 60)

    def test_what_is_told_may_be_changed(self):
        for ask in (kept, idle):
            for program in (THREE_LETS, num(1)):
                for way in WAYS:
                    first = ask(program, way, 60)
                    copy = list(first)
                    first.append((9, 9))
                    first.reverse()
                    self.assertEqual(ask(program, way, 60), copy)
                    first.clear()
                    self.assertEqual(ask(program, way, 60), copy)


class Lasts(unittest.TestCase):
    def told(self, program, rows, most=60):
        told = lasts(program, most)
        self.assertEqual(told, rows)
        self.assertIs(type(told), list)
        for row in told:
            self.assertIs(type(row), tuple)
            for part in row:
                self.assertIn(type(part), (int, type(None)))

    def test_no_binding(self):
        self.told(num(1), [])
        self.told(SELF_CALL, [])
        self.told(NUMBER_FAULT, [])
        self.told(ENDLESS, [], 0)

    def test_none_if_nothing_looks_at_it(self):
        self.told(let(0, num(1), num(2)), [(0, 0, None)])
        self.told(call(fun(0, num(1)), num(1)), [(1, 0, None)])
        self.told(let(0, num(1), fun(1, name(0))), [(0, 0, None)])
        self.told(let(0, num(1), let(0, num(2), name(0))), [(0, 0, None), (0, 1, 0)])

    def test_looks_are_numbered_from_0(self):
        self.told(let(0, num(1), name(0)), [(0, 0, 0)])
        self.told(let(0, num(1), let(1, name(0), name(1))), [(0, 0, 0), (0, 1, 1)])
        self.told(let(0, num(1), let(1, num(2), plus(name(1), name(0)))), [(0, 0, 1), (0, 1, 0)])

    def test_the_last_of_several(self):
        self.told(let(0, num(1), plus(name(0), name(0))), [(0, 0, 1)])
        three = let(0, num(1), let(1, num(2), plus(name(0), plus(name(1), name(0)))))
        self.told(three, [(0, 0, 2), (0, 1, 1)])

    def test_the_number_is_that_of_the_look_and_not_what_looks_take(self):
        # From activation 2, name 0 is one frame up; each look is one look.
        program = call(call(fun(0, fun(1, plus(name(0), plus(name(1), name(0))))), num(1)), num(2))
        self.told(program, [(1, 0, 2), (2, 1, 1)])

    def test_looks_from_other_activations(self):
        program = let(0, num(1), let(1, fun(2, plus(name(0), name(2))), plus(call(name(1), num(5)), name(0))))
        self.told(program, [(0, 0, 3), (0, 1, 0), (1, 2, 2)])

    def test_the_same_site_in_several_activations(self):
        program = let(0, fun(1, name(1)), plus(call(name(0), num(1)), call(name(0), num(2))))
        self.told(program, [(0, 0, 2), (1, 1, 1), (2, 1, 3)])
        # Activation 1 is one of the first fun, all behind it of the second one.
        self.told(ENDLESS, [(1, 0, 1), (2, 1, 3), (3, 1, 5)], 3)
        self.told(ENDLESS, [(1, 0, 1)] + [(at, 1, 2 * at - 1) for at in range(2, 61)])

    def test_looks_that_only_bind_or_pass(self):
        self.told(let(0, num(1), let(1, name(0), num(5))), [(0, 0, 0), (0, 1, None)])
        self.told(let(0, num(1), call(fun(1, num(5)), name(0))), [(0, 0, 0), (1, 1, None)])

    def test_making_a_function_is_no_look(self):
        program = let(0, num(1), let(1, fun(2, name(0)), name(0)))
        self.told(program, [(0, 0, 0), (0, 1, None)])

    def test_only_what_is_bound(self):
        self.told(choice(num(0), let(0, num(1), name(0)), num(5)), [])
        self.told(let(1, num(1), choice(name(1), num(5), let(0, num(1), name(0)))), [(0, 0, 0)])
        self.told(fun(0, let(1, num(1), name(1))), [])

    def test_ahead_of_a_fault(self):
        self.told(let(0, num(1), let(1, NUMBER_FAULT, name(0))), [(0, 0, None)])
        self.told(let(0, num(1), plus(name(0), NUMBER_FAULT)), [(0, 0, 0)])
        self.told(let(0, num(1), plus(NUMBER_FAULT, name(0))), [(0, 0, None)])
        self.told(let(0, num(1), call(name(0), name(0))), [(0, 0, 1)])
        self.told(call(fun(0, let(1, name(0), FUNCTION_FAULT)), num(1)), [(1, 0, 0), (1, 1, None)])

    def test_ahead_of_the_limit(self):
        program = let(0, num(1), let(1, call(fun(2, name(0)), name(0)), name(1)))
        self.told(program, [(0, 0, 0)], 0)
        self.told(program, [(0, 0, 1), (0, 1, 2), (1, 2, None)], 1)

    def test_rising_by_sites_whatever_is_bound_first(self):
        # The let's first expression binds site 1 ahead of the let itself.
        program = let(0, let(1, num(1), name(1)), name(0))
        self.told(program, [(0, 0, 1), (0, 1, 0)])
        # Activation 1 goes on binding when activation 2 is over.
        inner = let(1, call(fun(2, name(2)), num(1)), name(1))
        self.told(call(fun(0, inner), num(5)), [(1, 0, None), (1, 1, 1), (2, 2, 0)])

    def test_what_is_told_may_be_changed(self):
        program = let(0, num(1), name(0))
        first = lasts(program, 60)
        first.append((0, 1, None))
        self.assertEqual(lasts(program, 60), [(0, 0, 0)])
        first.clear()
        self.assertEqual(lasts(program, 60), [(0, 0, 0)])


class AgainstTheModel(unittest.TestCase):
    def test_what_is_held_and_looked_at(self):
        chance = random.Random(31)
        idles = {"tied": 0, "shared": 0}
        for writer in (Writer(chance), Nester(chance)):
            for _ in range(600):
                program = writer.program()
                for most in (chance.choice((0, 1, 2, 3, 4)), 60):
                    trace = Trace(program, most)
                    self.assertEqual(lasts(program, most), trace.lasts(), program)
                    rows = {way: kept(program, way, most) for way in WAYS}
                    for way in WAYS:
                        self.assertEqual(rows[way], trace.kept(way), program)
                        self.assertEqual(idle(program, way, most), trace.idle(way), program)
                    self.assertLessEqual(set(rows["flat"]), set(rows["shared"]))
                    self.assertLessEqual(set(rows["shared"]), set(rows["tied"]))
                    bound = {row[:2] for row in lasts(program, most)}
                    self.assertLessEqual(set(rows["tied"]), bound)
                    self.assertEqual(idle(program, "flat", most), [])
                    for way in idles:
                        idles[way] += rows[way] != rows["flat"]
        # Programs whose results hold the same by all ways would show little.
        self.assertGreater(min(idles.values()), 10, idles)


if __name__ == "__main__":
    unittest.main()
