"""Tests of compiling: points 118 and 119."""

import copy
import unittest

from sinktree.checker import check_program
from sinktree.compiler import compile_program
from sinktree.errors import BadProgram
from sinktree.judge import judge
from sinktree.machine import run
from sinktree.meaning import evaluate
from tests.makers import SCHEMA, ProgramMaker

BIG = 10 ** 9
# The fields with their places in the schema.
N, M, ON, STATE, NOTE = ("field", "n"), ("field", "m"), ("field", "on"), ("field", "state"), ("field", "note")
LOAD_N, LOAD_M, LOAD_ON, LOAD_STATE, LOAD_NOTE = ("load", 0), ("load", 1), ("load", 3), ("load", 4), ("load", 6)
SKIP = ("skip",)


def integer(value):
    return ("int", value)


def fitted(name, expression):
    """Make an integer or a text fit its field."""
    if name == "n":
        return ("min", integer(9), ("max", integer(0), expression))
    return ("cut", expression, 5) if name == "note" else expression


class Expressions(unittest.TestCase):
    def expect(self, name, expression, *code):
        """Expect the code of an expression, before what makes it fit its field."""
        index = [field[0] for field in SCHEMA].index(name)
        before, behind = (), ()
        if name == "n":
            before, behind = (("push", 9), ("push", 0)), (("max",), ("min",))
        elif name == "note":
            behind = (("cut", 5),)
        program = (("set", name, fitted(name, expression)),)
        with self.subTest(expression=expression):
            self.assertEqual(repr(compile_program(SCHEMA, program)), repr(before + code + behind + (("store", index),)))

    def test_plain_values(self):
        self.expect("n", integer(5), ("push", 5))
        self.expect("n", integer(-BIG), ("push", -BIG))
        self.expect("on", ("flag", True), ("push", True))
        self.expect("on", ("flag", False), ("push", False))
        self.expect("state", ("word", "new"), ("word", "new"))
        self.expect("note", ("text", "a b"), ("push", "a b"))
        self.expect("note", ("text", ""), ("push", ""))

    def test_fields(self):
        for name, instruction in (("n", LOAD_N), ("on", LOAD_ON), ("state", LOAD_STATE), ("note", LOAD_NOTE)):
            self.expect(name, ("field", name), instruction)

    def test_operators_of_two_operands(self):
        for head in ("add", "sub", "mul", "min", "max"):
            self.expect("n", (head, N, M), LOAD_N, LOAD_M, (head,))
            self.expect("n", (head, integer(3), N), ("push", 3), LOAD_N, (head,))
        self.expect("on", ("less", N, M), LOAD_N, LOAD_M, ("less",))
        self.expect("on", ("same", STATE, ("word", "new")), LOAD_STATE, ("word", "new"), ("same",))
        self.expect("on", ("and", ON, ("flag", True)), LOAD_ON, ("push", True), ("and",))
        self.expect("on", ("or", ("flag", False), ON), ("push", False), LOAD_ON, ("or",))
        self.expect("note", ("join", NOTE, ("text", "x")), LOAD_NOTE, ("push", "x"), ("join",))

    def test_operators_with_a_number(self):
        self.expect("n", ("div", N, 3), LOAD_N, ("div", 3))
        self.expect("n", ("mod", N, BIG), LOAD_N, ("mod", BIG))
        self.expect("note", ("cut", NOTE, 0), LOAD_NOTE, ("cut", 0))

    def test_the_other_operators(self):
        self.expect("on", ("not", ON), LOAD_ON, ("not",))
        self.expect("n", ("pick", ON, N, M), LOAD_ON, LOAD_N, LOAD_M, ("pick",))

    def test_operators_within_operators(self):
        self.expect(
            "n", ("sub", ("mul", N, integer(2)), ("div", ("add", M, integer(1)), 4)),
            LOAD_N, ("push", 2), ("mul",), LOAD_M, ("push", 1), ("add",), ("div", 4), ("sub",),
        )
        self.expect(
            "on", ("and", ("not", ("less", N, M)), ("or", ON, ON)),
            LOAD_N, LOAD_M, ("less",), ("not",), LOAD_ON, LOAD_ON, ("or",), ("and",),
        )


class Statements(unittest.TestCase):
    def expect(self, program, *code):
        with self.subTest(program=program):
            found = compile_program(SCHEMA, program)
            self.assertIsInstance(found, tuple)
            self.assertEqual(found, code)

    def test_skip(self):
        self.expect((SKIP,))
        self.expect((SKIP, SKIP))

    def test_sets(self):
        for index, (name, _) in enumerate(SCHEMA):
            self.expect((("set", name, ("field", name)),), ("load", index), ("store", index))

    def test_statements_in_order(self):
        program = (("set", "n", integer(1)), SKIP, ("set", "on", ("flag", True)), ("set", "n", integer(2)))
        self.expect(program, ("push", 1), ("store", 0), ("push", True), ("store", 3), ("push", 2), ("store", 0))

    def test_if(self):
        self.expect((("if", ON, (SKIP,), (SKIP,)),), LOAD_ON, ("unless", 1), ("jump", 0))
        self.expect(
            (("if", ON, (("set", "n", integer(1)),), (SKIP,)),), LOAD_ON, ("unless", 3), ("push", 1), ("store", 0), ("jump", 0),
        )
        self.expect(
            (("if", ON, (SKIP,), (("set", "n", integer(1)),)),), LOAD_ON, ("unless", 1), ("jump", 2), ("push", 1), ("store", 0),
        )
        self.expect(
            (("if", ("less", N, M), (("set", "n", integer(1)), ("set", "n", integer(2))), (("set", "n", integer(3)),)),
             ("set", "n", integer(4))),
            LOAD_N, LOAD_M, ("less",), ("unless", 5), ("push", 1), ("store", 0), ("push", 2), ("store", 0), ("jump", 2),
            ("push", 3), ("store", 0), ("push", 4), ("store", 0),
        )

    def test_if_within_if(self):
        inner = ("if", ("not", ON), (("set", "n", integer(1)),), (SKIP,))
        code = (LOAD_ON, ("not",), ("unless", 3), ("push", 1), ("store", 0), ("jump", 0))
        self.expect((inner,), *code)
        self.expect((("if", ON, (inner,), (SKIP,)),), LOAD_ON, ("unless", 7), *code, ("jump", 0))
        self.expect((("if", ON, (SKIP,), (inner,)),), LOAD_ON, ("unless", 1), ("jump", 6), *code)
        self.expect((("if", ON, (inner, inner), (inner,)),), LOAD_ON, ("unless", 13), *code, *code, ("jump", 6), *code)

    def test_the_example_of_the_document(self):
        schema = (("n", ("int", 0, 9)),)
        program = (("if", ("less", N, integer(5)), (("set", "n", integer(5)),), (SKIP,)),)
        expected = (("load", 0), ("push", 5), ("less",), ("unless", 3), ("push", 5), ("store", 0), ("jump", 0))
        self.assertEqual(compile_program(schema, program), expected)

    def test_the_largest_program(self):
        program = (("set", "n", integer(1)),) * 100
        self.expect(program, *(("push", 1), ("store", 0)) * 100)

    def test_refused_programs(self):
        large = ("mul", integer(BIG), ("mul", integer(BIG), integer(BIG)))
        for reason, program in (
            ("shape", ()), ("shape", None), ("shape", [SKIP]), ("shape", (SKIP,) * 201), ("shape", (("set", "n", integer(True)),)),
            ("field", (("set", "other", integer(1)),)), ("field", (("set", "n", ("field", "other")),)),
            ("kind", (("set", "n", ON),)), ("kind", (("if", N, (SKIP,), (SKIP,)),)), ("kind", (("set", "note", ("word", "new")),)),
            ("large", (("set", "n", large),)), ("range", (("set", "n", integer(10)),)), ("range", (("set", "n", ("add", N, N)),)),
        ):
            with self.subTest(program=program):
                with self.assertRaises(BadProgram) as caught:
                    compile_program(SCHEMA, program)
                self.assertEqual(caught.exception.reason, reason)
                with self.assertRaises(BadProgram) as caught:
                    check_program(SCHEMA, program)
                self.assertEqual(caught.exception.reason, reason)

    def test_the_arguments_stay(self):
        program = (("if", ON, (("set", "n", integer(1)),), (("set", "note", ("cut", NOTE, 1)),)),)
        schema = copy.deepcopy(SCHEMA)
        kept = copy.deepcopy(program)
        compile_program(schema, program)
        self.assertEqual((schema, program), (SCHEMA, kept))


class Promise(unittest.TestCase):
    def test_the_code_does_what_the_program_does(self):
        maker = ProgramMaker(119)
        accepted = 0
        for _ in range(600):
            program = maker.program(2)
            try:
                code = compile_program(SCHEMA, program)
            except BadProgram:
                continue
            accepted += 1
            self.assertIsNone(judge(SCHEMA, code))
            for _ in range(4):
                record = maker.record()
                self.assertEqual(repr(run(code, record)), repr(evaluate(SCHEMA, program, record)), (program, record))
        self.assertGreater(accepted, 200)


if __name__ == "__main__":
    unittest.main()
