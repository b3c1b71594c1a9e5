"""The interface: the refusals, and where each function stands."""

import unittest

from envways.errors import BadMost, BadProgram, BadWay, EnvError
from envways.programs import need_program, uses
from envways.running import ran


class Refusals(unittest.TestCase):
    def test_any_refusal_is_a_value_error(self):
        self.assertEqual(EnvError.__bases__, (ValueError,))

    def test_each_stands_straight_under_it(self):
        for kind in (BadProgram, BadWay, BadMost):
            self.assertEqual(kind.__bases__, (EnvError,))

    def test_each_stands_in_its_file(self):
        for kind in (EnvError, BadProgram, BadWay, BadMost):
            self.assertEqual(kind.__module__, "envways.errors")
        self.assertEqual(need_program.__module__, "envways.programs")
        self.assertEqual(uses.__module__, "envways.programs")
        self.assertEqual(ran.__module__, "envways.running")

    def test_arguments_may_be_named(self):
        self.assertIsNone(need_program(program=("num", 1)))
        self.assertEqual(uses(program=("num", 1)), [])
        self.assertEqual(ran(program=("num", 1), most=0), ("end", 1))


if __name__ == "__main__":
    unittest.main()
