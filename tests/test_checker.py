"""Tests of the bounds of point 107, the checks of point 108 and the promise of point 109."""

import copy
import itertools
import unittest

from sinktree.checker import bounds_of, check_program
from sinktree.errors import BadProgram
from sinktree.meaning import evaluate
from sinktree.schemas import is_record
from sinktree.trees import is_program
from tests.makers import SCHEMA, ProgramMaker

LIMIT = 10 ** 18
BIG = 10 ** 9
N = ("field", "n")
M = ("field", "m")
LOW = ("field", "low")
ON = ("field", "on")
STATE = ("field", "state")
MOOD = ("field", "mood")
NOTE = ("field", "note")
LONG = ("field", "long")
ONE = ("int", 1)
YES = ("flag", True)
NEW = ("word", "new")
EMPTY = ("text", "")
SKIP = ("skip",)
UNKNOWN = ("field", "other")
MOST = ("mul", ("int", BIG), ("int", BIG))
LEAST = ("mul", ("int", -BIG), ("int", BIG))
# An expression with a fault of each reason, and a program with it.
FIELD = ("add", UNKNOWN, ONE)
KIND = ("not", ONE)
LARGE = ("add", MOST, ONE)
FAULTS = {
    "field": ("set", "n", FIELD),
    "kind": ("set", "n", KIND),
    "large": ("set", "n", LARGE),
    "range": ("set", "n", ("int", 10)),
}


def long_text(many):
    """Return an expression whose greatest length is this number."""
    expression = EMPTY
    while many > 40:
        expression = ("join", expression, LONG)
        many -= 40
    return ("join", expression, ("cut", LONG, many))


def reason_of(function, schema, value):
    try:
        function(schema, value)
    except BadProgram as error:
        return error.reason
    return None


class Bounds(unittest.TestCase):
    def expect(self, expression, bounds):
        with self.subTest(expression=expression):
            self.assertEqual(bounds_of(SCHEMA, expression), bounds)

    def integers(self, expression, least, greatest):
        self.expect(expression, ("int", least, greatest))

    def test_plain_values(self):
        self.integers(("int", 5), 5, 5)
        self.integers(("int", -BIG), -BIG, -BIG)
        self.expect(YES, ("flag",))
        self.expect(("flag", False), ("flag",))
        self.expect(NEW, ("word", ("new",)))
        self.expect(("word", "stranger"), ("word", ("stranger",)))
        self.expect(("text", "abc"), ("text", 3))
        self.expect(EMPTY, ("text", 0))

    def test_fields(self):
        self.integers(N, 0, 9)
        self.integers(M, -3, 5)
        self.expect(ON, ("flag",))
        self.expect(STATE, ("word", ("done", "new", "old")))
        self.expect(NOTE, ("text", 5))
        self.expect(LONG, ("text", 40))

    def test_sums_and_differences(self):
        self.integers(("add", N, M), -3, 14)
        self.integers(("add", LOW, M), -12, 1)
        self.integers(("sub", N, M), -5, 12)
        self.integers(("sub", M, N), -12, 5)
        self.integers(("sub", LOW, M), -14, -1)
        self.integers(("sub", M, M), -8, 8)

    def test_products(self):
        # Each of the four products of the ends is the least once, and the greatest once.
        self.integers(("mul", N, N), 0, 81)
        self.integers(("mul", LOW, LOW), 16, 81)
        self.integers(("mul", LOW, N), -81, 0)
        self.integers(("mul", N, LOW), -81, 0)
        self.integers(("mul", M, M), -15, 25)
        self.integers(("mul", M, LOW), -45, 27)
        self.integers(("mul", LOW, M), -45, 27)
        self.integers(("mul", M, ("int", -2)), -10, 6)
        self.integers(("mul", ("int", -2), M), -10, 6)
        self.integers(("mul", ("int", 2), LOW), -18, -8)
        self.integers(("mul", ("int", -2), LOW), 8, 18)

    def test_the_products_of_all_ends(self):
        ranges = [(a, b) for a in range(-3, 4) for b in range(a, 4)]
        for (a, b), (c, d) in itertools.product(ranges, ranges):
            schema = (("a", ("int", a, b)), ("b", ("int", c, d)))
            values = [x * y for x in range(a, b + 1) for y in range(c, d + 1)]
            found = bounds_of(schema, ("mul", ("field", "a"), ("field", "b")))
            self.assertEqual(found, ("int", min(values), max(values)))

    def test_least_and_greatest(self):
        self.integers(("min", N, M), -3, 5)
        self.integers(("min", M, N), -3, 5)
        self.integers(("max", N, M), 0, 9)
        self.integers(("max", M, N), 0, 9)
        self.integers(("min", N, ("int", 4)), 0, 4)
        self.integers(("max", N, ("int", 4)), 4, 9)
        self.integers(("min", LOW, M), -9, -4)
        self.integers(("max", LOW, M), -3, 5)

    def test_quotients(self):
        self.integers(("div", N, 2), 0, 4)
        self.integers(("div", M, 2), -2, 2)
        self.integers(("div", LOW, 2), -5, -2)
        self.integers(("div", LOW, 5), -2, -1)
        self.integers(("div", LOW, BIG), -1, -1)
        self.integers(("div", N, 1), 0, 9)

    def test_remainders(self):
        self.integers(("mod", N, 10), 0, 9)
        self.integers(("mod", N, 11), 0, 9)
        self.integers(("mod", N, BIG), 0, 9)
        self.integers(("mod", N, 9), 0, 8)
        self.integers(("mod", N, 1), 0, 0)
        self.integers(("mod", M, 6), 0, 5)
        self.integers(("mod", M, BIG), 0, BIG - 1)
        self.integers(("mod", LOW, 20), 0, 19)
        self.integers(("mod", ("int", 7), 8), 7, 7)
        self.integers(("mod", ("int", 7), 7), 0, 6)
        self.integers(("mod", ("int", 0), 1), 0, 0)
        self.integers(("mod", ("int", -1), 3), 0, 2)
        self.integers(("mod", ("add", N, ("int", 2)), 12), 2, 11)
        self.integers(("mod", ("add", N, ("int", 2)), 11), 0, 10)

    def test_flags(self):
        for expression in (
            ("less", N, M), ("same", N, M), ("same", ON, YES), ("same", STATE, MOOD), ("same", NOTE, LONG),
            ("not", ON), ("and", ON, YES), ("or", ON, YES),
        ):
            self.expect(expression, ("flag",))

    def test_pick(self):
        self.integers(("pick", ON, N, M), -3, 9)
        self.integers(("pick", ON, M, N), -3, 9)
        self.integers(("pick", ON, LOW, ("int", 1)), -9, 1)
        self.integers(("pick", ON, ("int", 1), LOW), -9, 1)
        self.integers(("pick", ON, N, ("int", 4)), 0, 9)
        self.expect(("pick", ON, STATE, MOOD), ("word", ("done", "new", "old", "sad")))
        self.expect(("pick", ON, NEW, NEW), ("word", ("new",)))
        self.expect(("pick", ON, NEW, ("word", "ace")), ("word", ("ace", "new")))
        self.expect(("pick", ON, ("word", "ace"), NEW), ("word", ("ace", "new")))
        self.expect(("pick", ON, NOTE, LONG), ("text", 40))
        self.expect(("pick", ON, LONG, NOTE), ("text", 40))
        self.expect(("pick", YES, ON, ON), ("flag",))
        # The flag decides nothing, even if it is written out.
        self.integers(("pick", YES, ("int", 1), ("int", 2)), 1, 2)

    def test_texts(self):
        self.expect(("cut", NOTE, 3), ("text", 3))
        self.expect(("cut", NOTE, 5), ("text", 5))
        self.expect(("cut", NOTE, 6), ("text", 5))
        self.expect(("cut", NOTE, 0), ("text", 0))
        self.expect(("join", NOTE, LONG), ("text", 45))
        self.expect(("join", NOTE, ("text", "ab")), ("text", 7))
        self.expect(("cut", ("join", LONG, LONG), 40), ("text", 40))

    def test_the_limits(self):
        self.integers(MOST, LIMIT, LIMIT)
        self.integers(LEAST, -LIMIT, -LIMIT)
        self.expect(long_text(200), ("text", 200))

    def test_the_first_fault(self):
        for expression, reason in (
            (UNKNOWN, "field"), (FIELD, "field"), (KIND, "kind"), (LARGE, "large"), (("not", FIELD), "field"),
            (("add", FIELD, KIND), "field"), (("add", KIND, FIELD), "kind"), (("pick", ON, LARGE, FIELD), "large"),
        ):
            with self.subTest(expression=expression):
                self.assertEqual(reason_of(bounds_of, SCHEMA, expression), reason)

    def test_the_example_of_the_document(self):
        schema = (("n", ("int", -2, 9)),)
        self.assertEqual(bounds_of(schema, ("mul", ("field", "n"), ("int", -3))), ("int", -27, 6))


class Checks(unittest.TestCase):
    def accept(self, *program):
        with self.subTest(program=program):
            self.assertIsNone(check_program(SCHEMA, program))

    def refuse(self, reason, *program):
        with self.subTest(program=program):
            self.assertEqual(reason_of(check_program, SCHEMA, program), reason)

    def condition(self, reason, expression):
        """Expect the reason for the expression as a condition; a flag raises nothing more."""
        self.refuse(reason, ("if", expression, (SKIP,), (SKIP,)))

    def test_accepted_programs(self):
        self.accept(SKIP)
        self.accept(("set", "n", ("min", ("int", 9), ("add", N, ONE))))
        self.accept(("set", "on", ("less", N, M)), SKIP, ("set", "state", NEW))
        self.accept(("if", ON, (("set", "note", ("cut", LONG, 5)),), (("set", "long", NOTE),)))
        self.accept(("set", "mood", NEW), ("set", "note", ("text", "abcde")))

    def test_the_example_of_the_document(self):
        with self.assertRaises(BadProgram) as caught:
            check_program((("n", ("int", 0, 9)),), (("set", "n", ("add", ("field", "n"), ("int", 1))),))
        self.assertEqual(caught.exception.reason, "range")

    def test_shape(self):
        class Odd(tuple):
            pass

        deep = ONE
        for _ in range(19):
            deep = ("div", deep, 1)
        for value in (
            None, True, 0, 1.5, "", "skip", b"skip", (), [], {}, set(), object(), SKIP, [SKIP], (["skip"],), ((),),
            ((SKIP,),), (("skip", 1),), (("set", "n"),), (("set", "n", 1),), (("set", "n", ("int", True)),),
            (("set", "n", ("int", BIG + 1)),), (("set", "n", ("go", ONE)),), (("set", "n", ("add", ONE)),),
            (("if", ON, (SKIP,)),), (("if", ON, (), (SKIP,)),), (("set", "n", ("div", N, 0)),),
            (("set", "note", ("text", 'a"')),), (("set", "if", ONE),), (("set", 5, ONE),), (("set", "n", ("field", 5)),),
            (("set", "n", deep),) , (SKIP,) * 201, Odd([SKIP, ()]), (("set", "n", ("word", "A")),),
        ):
            with self.subTest(value=value):
                self.assertIs(is_program(value), False)
                self.assertEqual(reason_of(check_program, SCHEMA, value), "shape")

    def test_the_shape_comes_before_everything_else(self):
        for statement in FAULTS.values():
            self.refuse("shape", statement, ("skip", 1))
            self.refuse("shape", statement, *[SKIP] * 199, SKIP)
            self.refuse("shape", ("if", YES, (statement,), ()))
        self.accept(*[SKIP] * 200)
        self.refuse("shape", *[SKIP] * 201)

    def test_unknown_fields(self):
        self.refuse("field", ("set", "other", ONE))
        self.refuse("field", ("set", "n", UNKNOWN))
        self.condition("field", UNKNOWN)
        self.condition("field", ("not", UNKNOWN))
        self.condition("field", ("and", ON, UNKNOWN))
        self.condition("field", ("pick", ON, ON, UNKNOWN))
        self.refuse("field", ("set", "note", ("join", NOTE, UNKNOWN)))
        self.refuse("field", ("set", "note", ("cut", UNKNOWN, 1)))

    def test_the_name_of_a_set_is_checked_before_its_expression(self):
        for expression in (KIND, LARGE, UNKNOWN, ("add", YES, ONE), long_text(201)):
            self.refuse("field", ("set", "other", expression))

    def test_operands_of_a_wrong_kind(self):
        samples = {"int": N, "flag": ON, "word": STATE, "text": NOTE}
        right = {
            "add": "int int", "sub": "int int", "mul": "int int", "min": "int int", "max": "int int",
            "less": "int int", "and": "flag flag", "or": "flag flag", "join": "text text",
        }
        for head, kinds in right.items():
            for a, b in itertools.product(samples, samples):
                reason = None if f"{a} {b}" == kinds else "kind"
                with self.subTest(head=head, a=a, b=b):
                    self.assertEqual(reason_of(bounds_of, SCHEMA, (head, samples[a], samples[b])), reason)
        for head, kind in (("not", "flag"), ("div", "int"), ("mod", "int"), ("cut", "text")):
            for a in samples:
                expression = (head, samples[a]) if head == "not" else (head, samples[a], 3)
                with self.subTest(head=head, a=a):
                    self.assertEqual(reason_of(bounds_of, SCHEMA, expression), None if a == kind else "kind")
        for a, b in itertools.product(samples, samples):
            reason = None if a == b else "kind"
            with self.subTest(a=a, b=b):
                self.assertEqual(reason_of(bounds_of, SCHEMA, ("same", samples[a], samples[b])), reason)
                self.assertEqual(reason_of(bounds_of, SCHEMA, ("pick", ON, samples[a], samples[b])), reason)
        for kind in ("int", "word", "text"):
            self.assertEqual(reason_of(bounds_of, SCHEMA, ("pick", samples[kind], N, N)), "kind")

    def test_conditions_are_flags(self):
        for expression in (N, ONE, STATE, NEW, NOTE, EMPTY, ("add", N, N), ("cut", NOTE, 1)):
            self.condition("kind", expression)
        for expression in (ON, YES, ("less", N, M)):
            self.condition(None, expression)

    def test_values_of_a_wrong_kind(self):
        samples = {"n": N, "on": ON, "state": STATE, "note": NOTE}
        for name, other in itertools.product(samples, samples):
            self.refuse(None if name == other else "kind", ("set", name, samples[other]))

    def test_words_and_texts_are_kept_apart(self):
        self.refuse("kind", ("set", "note", NEW))
        self.refuse("kind", ("set", "state", ("text", "new")))
        self.refuse("kind", ("set", "note", ("cut", NEW, 1)))
        self.refuse("kind", ("set", "note", ("join", NOTE, NEW)))
        self.refuse("kind", ("set", "note", ("pick", ON, NOTE, NEW)))
        self.condition("kind", ("same", STATE, ("text", "new")))

    def test_large_integers(self):
        self.condition(None, ("less", MOST, LEAST))
        for expression in (
            ("add", MOST, ONE), ("sub", LEAST, ONE), ("sub", MOST, ("int", -1)), ("add", LEAST, ("int", -1)),
            ("mul", MOST, ("int", 2)), ("mul", MOST, ("int", -2)), ("add", MOST, N), ("sub", LEAST, N), ("add", LEAST, M),
        ):
            self.condition("large", ("less", expression, ONE))
            self.condition("large", ("less", ONE, expression))
        for expression in (
            ("add", MOST, ("int", 0)), ("sub", LEAST, ("int", 0)), ("mul", MOST, ("int", -1)), ("add", MOST, LEAST),
            ("sub", MOST, MOST), ("min", MOST, LEAST), ("max", MOST, LEAST), ("div", MOST, 1), ("pick", ON, MOST, LEAST),
            ("add", LEAST, N), ("sub", MOST, N),
        ):
            self.condition(None, ("less", expression, ONE))

    def test_the_limits_hold_within_an_expression(self):
        self.condition("large", ("less", ("min", LARGE, ONE), ONE))
        self.condition("large", ("less", ("mod", LARGE, 2), ONE))
        self.condition("large", ("less", ("div", LARGE, BIG), ONE))
        self.condition("large", ("same", ("cut", long_text(201), 1), NOTE))

    def test_long_texts(self):
        self.condition(None, ("same", long_text(200), EMPTY))
        self.condition("large", ("same", long_text(201), EMPTY))
        self.condition("large", ("same", ("pick", ON, NOTE, long_text(201)), EMPTY))
        self.refuse(None, ("set", "long", ("cut", long_text(200), 40)))
        self.refuse("large", ("set", "long", ("cut", long_text(201), 40)))

    def test_the_range_of_a_set(self):
        self.accept(("set", "n", ("int", 0)))
        self.accept(("set", "n", ("int", 9)))
        self.refuse("range", ("set", "n", ("int", -1)))
        self.refuse("range", ("set", "n", ("int", 10)))
        self.accept(("set", "m", ("int", -3)))
        self.accept(("set", "m", ("int", 5)))
        self.refuse("range", ("set", "m", ("int", -4)))
        self.refuse("range", ("set", "m", ("int", 6)))
        self.refuse("range", ("set", "n", ("add", N, ONE)))
        self.refuse("range", ("set", "n", ("sub", N, ONE)))
        self.accept(("set", "n", ("add", ("min", N, ("int", 8)), ONE)))
        self.accept(("set", "n", ("sub", ("max", N, ONE), ONE)))
        self.refuse("range", ("set", "n", MOST))

    def test_the_bounds_of_a_field_stay(self):
        self.refuse("range", ("set", "n", ("int", 1)), ("set", "n", ("add", N, ONE)))
        self.refuse("range", ("set", "state", NEW), ("set", "mood", STATE))
        self.refuse("range", ("if", ("less", N, ("int", 5)), (("set", "n", ("add", N, ONE)),), (SKIP,)))

    def test_words_of_the_field(self):
        for word in ("old", "new", "done"):
            self.accept(("set", "state", ("word", word)))
        self.refuse("range", ("set", "state", ("word", "lost")))
        self.refuse("range", ("set", "state", MOOD))
        self.refuse("range", ("set", "mood", STATE))
        self.refuse("range", ("set", "state", ("pick", ON, NEW, ("word", "lost"))))
        self.refuse("range", ("set", "state", ("pick", ON, ("word", "lost"), NEW)))
        self.accept(("set", "state", ("pick", ON, NEW, STATE)))

    def test_lengths_of_the_field(self):
        self.accept(("set", "note", ("text", "abcde")))
        self.refuse("range", ("set", "note", ("text", "abcdef")))
        self.refuse("range", ("set", "note", LONG))
        self.accept(("set", "long", NOTE))
        self.accept(("set", "note", ("cut", LONG, 5)))
        self.refuse("range", ("set", "note", ("cut", LONG, 6)))
        self.refuse("range", ("set", "long", long_text(41)))

    def test_flags_have_no_range(self):
        self.accept(("set", "on", YES), ("set", "on", ("flag", False)), ("set", "on", ("not", ON)))


class FirstFault(unittest.TestCase):
    def expect(self, reason, *program):
        with self.subTest(program=program):
            self.assertEqual(reason_of(check_program, SCHEMA, program), reason)

    def test_each_pair_of_statements(self):
        for (first, a), (second, b) in itertools.permutations(FAULTS.items(), 2):
            self.expect(first, a, b)
            self.expect(first, SKIP, a, SKIP, b)
            self.expect(second, b, a)

    def test_each_pair_in_an_if(self):
        for (first, a), (second, b) in itertools.permutations(FAULTS.items(), 2):
            self.expect(first, ("if", ON, (a,), (b,)))
            self.expect(first, ("if", ON, (SKIP, a), (b,)), b)
            self.expect(second, ("if", ON, (SKIP,), (b,)), a)
            self.expect(first, a, ("if", ON, (b,), (SKIP,)))
            self.expect(first, ("if", ON, (SKIP,), (("if", ON, (a,), (SKIP,)),)), b)

    def test_the_condition_comes_first(self):
        for reason, statement in FAULTS.items():
            for found, condition in (
                ("field", UNKNOWN), ("kind", N), ("kind", KIND), ("large", ("less", LARGE, ONE)), ("kind", ("add", N, ONE)),
            ):
                self.expect(found, ("if", condition, (statement,), (SKIP,)))
                self.expect(found, ("if", condition, (SKIP,), (statement,)))
                self.expect(reason, statement, ("if", condition, (SKIP,), (SKIP,)))

    def test_operands_from_left_to_right(self):
        faults = {"field": UNKNOWN, "kind": KIND, "large": LARGE}
        for (first, a), (_, b) in itertools.permutations(faults.items(), 2):
            for expression in (
                ("add", a, b), ("same", a, b), ("join", a, b), ("and", a, b), ("pick", a, b, N), ("pick", a, N, b),
                ("pick", ON, a, b), ("add", ("div", a, 2), b), ("add", N, ("add", a, b)),
            ):
                self.expect(first, ("set", "n", expression))

    def test_operands_come_before_their_operator(self):
        for reason, fault in (("field", UNKNOWN), ("large", LARGE)):
            self.expect(reason, ("set", "n", ("add", YES, fault)))
            self.expect(reason, ("set", "n", ("add", fault, YES)))
            self.expect(reason, ("set", "n", ("pick", N, N, fault)))
            self.expect(reason, ("set", "on", ("not", fault)))
        self.expect("kind", ("set", "n", ("mul", ("mul", MOST, YES), MOST)))
        self.expect("large", ("set", "n", ("mul", ("mul", MOST, MOST), YES)))

    def test_the_kind_of_an_operand_comes_before_the_size_of_the_result(self):
        self.expect("kind", ("set", "n", ("mul", MOST, YES)))
        self.expect("kind", ("set", "note", ("join", long_text(200), NEW)))

    def test_the_expression_comes_before_the_set(self):
        self.expect("large", ("set", "on", LARGE))
        self.expect("large", ("set", "n", LARGE))
        self.expect("field", ("set", "on", FIELD))
        self.expect("kind", ("set", "on", MOST))
        self.expect("kind", ("set", "n", ("text", "abcdefghi")))
        self.expect("kind", ("set", "note", ("int", 99)))

    def test_the_name_comes_before_faults_behind_it(self):
        self.expect("field", ("set", "other", KIND), ("set", "n", LARGE))
        self.expect("range", ("set", "n", ("int", 10)), ("set", "other", KIND))

    def test_the_arguments_stay(self):
        program = (("set", "n", ("min", N, ("int", 3))), ("if", ON, (("set", "mood", NEW),), (SKIP,)))
        schema = copy.deepcopy(SCHEMA)
        kept = copy.deepcopy(program)
        check_program(schema, program)
        self.assertEqual((schema, program), (SCHEMA, kept))


def holds(bounds, value):
    if bounds[0] == "int":
        return type(value) is int and bounds[1] <= value <= bounds[2]
    if bounds[0] == "flag":
        return type(value) is bool
    if bounds[0] == "word":
        return value in bounds[1] and list(bounds[1]) == sorted(set(bounds[1]))
    return type(value) is str and len(value) <= bounds[1]


class Promise(unittest.TestCase):
    def test_accepted_programs_make_records(self):
        maker = ProgramMaker(109)
        accepted = 0
        for _ in range(600):
            program = maker.program(2)
            if reason_of(check_program, SCHEMA, program) is None:
                accepted += 1
                for _ in range(5):
                    record = maker.record()
                    self.assertTrue(is_record(SCHEMA, record))
                    self.assertTrue(is_record(SCHEMA, evaluate(SCHEMA, program, record)), program)
        self.assertGreater(accepted, 200)

    def test_values_lie_within_their_bounds(self):
        maker = ProgramMaker(107)
        names = {"int": "n", "flag": "on", "word": "state", "text": "note"}
        for _ in range(3000):
            kind = maker.random.choice(tuple(names))
            expression = maker.expression(kind, 3)
            index = [name for name, _ in SCHEMA].index(names[kind])
            if reason_of(bounds_of, SCHEMA, expression) is None:
                bounds = bounds_of(SCHEMA, expression)
                self.assertEqual(bounds[0], kind)
                for _ in range(4):
                    value = evaluate(SCHEMA, (("set", names[kind], expression),), maker.record())[index]
                    self.assertTrue(holds(bounds, value), (expression, bounds, value))

    def test_the_ends_are_reached(self):
        # Each field stands once in the expression, so no narrower bounds would contain all values.
        ranges = [(-5, -2), (-3, 4), (0, 6), (2, 5)]
        for (a, b), (c, d) in itertools.product(ranges, ranges):
            schema = (("a", ("int", a, b)), ("b", ("int", c, d)), ("on", ("flag",)))
            left, right = ("field", "a"), ("field", "b")
            for expression in (
                ("add", left, right), ("sub", left, right), ("mul", left, right), ("min", left, right),
                ("max", left, right), ("div", left, 3), ("pick", ("field", "on"), left, right),
            ):
                program = (("set", "a", expression),)
                values = [
                    evaluate(schema, program, (x, y, on))[0]
                    for x in range(a, b + 1) for y in range(c, d + 1) for on in (True, False)
                ]
                self.assertEqual(bounds_of(schema, expression), ("int", min(values), max(values)), expression)


if __name__ == "__main__":
    unittest.main()
