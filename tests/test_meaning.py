"""Tests of the evaluation of point 105."""

import copy
import unittest

from sinktree.meaning import evaluate

SCHEMA = (
    ("n", ("int", 0, 9)),
    ("on", ("flag",)),
    ("state", ("word", ("new", "old", "done"))),
    ("note", ("text", 5)),
    ("m", ("int", -50, 50)),
)
RECORD = (7, True, "old", "abc", -7)
N = ("field", "n")
M = ("field", "m")
ON = ("field", "on")
NOTE = ("field", "note")
STATE = ("field", "state")
YES = ("flag", True)
NO = ("flag", False)
SKIP = ("skip",)


def integer(value):
    return ("int", value)


def text(value):
    return ("text", value)


class Expressions(unittest.TestCase):
    def expect(self, name, expression, value):
        """Set a field that takes any value, since no range is checked, and look at it."""
        index = [field[0] for field in SCHEMA].index(name)
        expected = RECORD[:index] + (value,) + RECORD[index + 1:]
        with self.subTest(expression=expression):
            result = evaluate(SCHEMA, (("set", name, expression),), RECORD)
            self.assertEqual(result, expected)
            self.assertIsInstance(result, tuple)
            self.assertIs(type(result[index]), type(value))

    def test_plain_values(self):
        self.expect("n", integer(3), 3)
        self.expect("n", integer(0), 0)
        self.expect("m", integer(-3), -3)
        self.expect("m", integer(-10 ** 9), -10 ** 9)
        self.expect("on", YES, True)
        self.expect("on", NO, False)
        self.expect("state", ("word", "done"), "done")
        self.expect("note", text("x y"), "x y")
        self.expect("note", text(""), "")

    def test_fields(self):
        self.expect("m", N, 7)
        self.expect("n", M, -7)
        self.expect("on", ON, True)
        self.expect("state", STATE, "old")
        self.expect("note", NOTE, "abc")

    def test_sums_differences_and_products(self):
        self.expect("n", ("add", N, integer(2)), 9)
        self.expect("n", ("add", N, M), 0)
        self.expect("n", ("sub", N, integer(9)), -2)
        self.expect("n", ("sub", integer(9), N), 2)
        self.expect("n", ("mul", N, M), -49)
        self.expect("n", ("mul", M, M), 49)

    def test_least_and_greatest(self):
        self.expect("n", ("min", N, integer(9)), 7)
        self.expect("n", ("min", integer(9), N), 7)
        self.expect("n", ("min", N, M), -7)
        self.expect("n", ("max", N, integer(9)), 9)
        self.expect("n", ("max", integer(9), N), 9)
        self.expect("n", ("max", N, M), 7)

    def test_quotients_are_rounded_down(self):
        for value, divisor, quotient in (
            (7, 2, 3), (-7, 2, -4), (6, 2, 3), (-6, 2, -3), (-1, 10, -1), (1, 10, 0), (0, 3, 0), (7, 1, 7),
            (-1, 10 ** 9, -1), (10 ** 9, 10 ** 9, 1),
        ):
            self.expect("n", ("div", integer(value), divisor), quotient)
        self.expect("n", ("div", M, 4), -2)

    def test_remainders_are_not_negative(self):
        for value, divisor, remainder in (
            (7, 2, 1), (-7, 2, 1), (6, 2, 0), (-6, 2, 0), (-1, 10, 9), (-10, 10, 0), (-11, 10, 9), (7, 1, 0),
            (-1, 10 ** 9, 10 ** 9 - 1), (3, 10, 3),
        ):
            self.expect("n", ("mod", integer(value), divisor), remainder)
        self.expect("n", ("mod", M, 4), 1)

    def test_quotients_and_remainders_belong_together(self):
        for value in range(-30, 31):
            for divisor in range(1, 8):
                program = (("set", "n", ("div", integer(value), divisor)), ("set", "m", ("mod", integer(value), divisor)))
                result = evaluate(SCHEMA, program, RECORD)
                self.assertEqual(result[0] * divisor + result[4], value)
                self.assertTrue(0 <= result[4] < divisor)

    def test_less(self):
        self.expect("on", ("less", M, N), True)
        self.expect("on", ("less", N, M), False)
        self.expect("on", ("less", N, integer(7)), False)
        self.expect("on", ("less", N, integer(8)), True)

    def test_same(self):
        self.expect("on", ("same", N, integer(7)), True)
        self.expect("on", ("same", N, M), False)
        self.expect("on", ("same", ON, YES), True)
        self.expect("on", ("same", ON, NO), False)
        self.expect("on", ("same", NO, NO), True)
        self.expect("on", ("same", STATE, ("word", "old")), True)
        self.expect("on", ("same", STATE, ("word", "new")), False)
        self.expect("on", ("same", NOTE, text("abc")), True)
        self.expect("on", ("same", NOTE, text("ab")), False)

    def test_flags(self):
        self.expect("on", ("not", YES), False)
        self.expect("on", ("not", NO), True)
        for a in (True, False):
            for b in (True, False):
                self.expect("on", ("and", ("flag", a), ("flag", b)), a and b)
                self.expect("on", ("or", ("flag", a), ("flag", b)), a or b)

    def test_pick(self):
        self.expect("n", ("pick", YES, integer(1), integer(2)), 1)
        self.expect("n", ("pick", NO, integer(1), integer(2)), 2)
        self.expect("on", ("pick", ON, NO, YES), False)
        self.expect("state", ("pick", ("not", ON), STATE, ("word", "new")), "new")
        self.expect("note", ("pick", ON, NOTE, text("")), "abc")

    def test_cut(self):
        self.expect("note", ("cut", NOTE, 0), "")
        self.expect("note", ("cut", NOTE, 1), "a")
        self.expect("note", ("cut", NOTE, 2), "ab")
        self.expect("note", ("cut", NOTE, 3), "abc")
        self.expect("note", ("cut", NOTE, 4), "abc")
        self.expect("note", ("cut", NOTE, 40), "abc")
        self.expect("note", ("cut", text(""), 5), "")

    def test_join(self):
        self.expect("note", ("join", NOTE, text("x")), "abcx")
        self.expect("note", ("join", text("x"), NOTE), "xabc")
        self.expect("note", ("join", text(""), text("")), "")

    def test_operators_within_operators(self):
        self.expect("n", ("sub", ("mul", N, integer(2)), ("add", M, integer(1))), 20)
        self.expect("on", ("and", ("less", M, integer(0)), ("not", ("same", STATE, ("word", "new")))), True)
        self.expect("note", ("cut", ("join", NOTE, ("join", NOTE, text("z"))), 5), "abcab")
        self.expect("n", ("pick", ("or", NO, ("same", NOTE, text(""))), integer(1), ("div", N, 2)), 3)


class Statements(unittest.TestCase):
    def expect(self, program, record, result):
        with self.subTest(program=program, record=record):
            self.assertEqual(evaluate(SCHEMA, program, record), result)

    def test_skip(self):
        self.expect((SKIP,), RECORD, RECORD)
        self.expect((SKIP, SKIP), RECORD, RECORD)

    def test_each_field_can_be_set(self):
        self.expect((("set", "n", integer(1)),), RECORD, (1, True, "old", "abc", -7))
        self.expect((("set", "on", NO),), RECORD, (7, False, "old", "abc", -7))
        self.expect((("set", "state", ("word", "new")),), RECORD, (7, True, "new", "abc", -7))
        self.expect((("set", "note", text("z")),), RECORD, (7, True, "old", "z", -7))
        self.expect((("set", "m", integer(1)),), RECORD, (7, True, "old", "abc", 1))

    def test_if_runs_one_of_its_programs(self):
        program = (("if", ON, (("set", "n", integer(1)),), (("set", "m", integer(2)),)),)
        self.expect(program, RECORD, (1, True, "old", "abc", -7))
        self.expect(program, (7, False, "old", "abc", -7), (7, False, "old", "abc", 2))

    def test_all_statements_of_a_branch_are_run(self):
        first = (("set", "n", integer(1)), SKIP, ("set", "m", N))
        second = (("set", "m", integer(2)), ("set", "n", ("add", M, integer(1))))
        program = (("if", ON, first, second), ("set", "note", text("end")))
        self.expect(program, RECORD, (1, True, "old", "end", 1))
        self.expect(program, (7, False, "old", "abc", -7), (3, False, "old", "end", 2))

    def test_if_within_if(self):
        inner = ("if", ("less", N, integer(5)), (("set", "note", text("a")),), (("set", "note", text("b")),))
        other = ("if", ("less", N, integer(5)), (("set", "note", text("c")),), (("set", "note", text("d")),))
        program = (("if", ON, (inner,), (other,)),)
        for n, on, note in ((4, True, "a"), (5, True, "b"), (4, False, "c"), (5, False, "d")):
            self.expect(program, (n, on, "old", "", 0), (n, on, "old", note, 0))

    def test_a_statement_reads_what_the_one_before_has_stored(self):
        self.expect((("set", "n", integer(1)), ("set", "m", N)), RECORD, (1, True, "old", "abc", 1))
        self.expect((("set", "m", N), ("set", "n", integer(1))), RECORD, (1, True, "old", "abc", 7))
        self.expect((("set", "n", ("add", N, N)), ("set", "n", ("add", N, N))), RECORD, (28, True, "old", "abc", -7))

    def test_a_condition_reads_what_the_statement_before_has_stored(self):
        program = (("set", "on", NO), ("if", ON, (("set", "n", integer(1)),), (("set", "n", integer(2)),)))
        self.expect(program, RECORD, (2, False, "old", "abc", -7))

    def test_the_condition_is_not_asked_again(self):
        program = (("if", ON, (("set", "on", NO),), (("set", "on", YES),)),)
        self.expect(program, RECORD, (7, False, "old", "abc", -7))
        self.expect(program, (7, False, "old", "abc", -7), RECORD)

    def test_no_range_is_checked(self):
        self.expect((("set", "n", integer(10)),), RECORD, (10, True, "old", "abc", -7))
        self.expect((("set", "n", ("sub", integer(0), N)),), RECORD, (-7, True, "old", "abc", -7))
        self.expect((("set", "state", ("word", "lost")),), RECORD, (7, True, "lost", "abc", -7))
        self.expect((("set", "note", ("join", NOTE, NOTE)),), RECORD, (7, True, "old", "abcabc", -7))
        big = ("mul", integer(10 ** 9), ("mul", integer(10 ** 9), integer(10 ** 9)))
        self.expect((("set", "n", big), ("set", "m", ("div", N, 10 ** 9))), RECORD, (10 ** 27, True, "old", "abc", 10 ** 18))

    def test_the_arguments_stay(self):
        program = (("set", "n", integer(1)), ("if", ON, (("set", "m", N),), (SKIP,)))
        record = (7, True, "old", "abc", -7)
        schema = copy.deepcopy(SCHEMA)
        kept = copy.deepcopy(program)
        evaluate(schema, program, record)
        self.assertEqual(record, RECORD)
        self.assertEqual(program, kept)
        self.assertEqual(schema, SCHEMA)

    def test_the_result_is_a_tuple(self):
        self.assertIsInstance(evaluate(SCHEMA, (SKIP,), RECORD), tuple)

    def test_the_example_of_the_document(self):
        schema = (("n", ("int", 0, 9)),)
        program = (("set", "n", ("min", ("int", 9), ("add", ("field", "n"), ("int", 4)))),)
        self.assertEqual(evaluate(schema, program, (7,)), (9,))
        self.assertEqual(evaluate(schema, program, (3,)), (7,))
        self.assertEqual(evaluate(schema, program, (5,)), (9,))


if __name__ == "__main__":
    unittest.main()
