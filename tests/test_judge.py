"""Tests of the judge: points 115, 116 and 117."""

import copy
import unittest

from sinktree.errors import BadCode
from sinktree.judge import judge
from sinktree.machine import run
from sinktree.schemas import is_record
from tests.makers import SCHEMA as WIDE
from tests.makers import CodeMaker, ProgramMaker

LIMIT = 10 ** 18
BIG = 10 ** 9
SCHEMA = (
    ("n", ("int", 0, 9)),
    ("on", ("flag",)),
    ("state", ("word", ("old", "new"))),
    ("note", ("text", 5)),
    ("m", ("int", -9, -4)),
    ("long", ("text", 40)),
)
N, ON, STATE, NOTE, M, LONG = [("load", index) for index in range(6)]
MOST = (("push", LIMIT),)
TO_FLAG = (("push", 0), ("less",), ("store", 1))
SET_N = (("push", 1), ("store", 0))
ANYTHING = (None, True, False, 0, 1, 1.5, 10 ** 30, "", "add", b"", [], [("push", 1)], {}, set(), object(), int, range(3))


def fault_of(code, schema=SCHEMA):
    try:
        judge(schema, code)
    except BadCode as error:
        return (error.index, error.reason)
    return None


def long_text(many):
    """Return code that pushes a text whose greatest length is this number."""
    code = (("push", ""),)
    while many > 40:
        code += (LONG, ("join",))
        many -= 40
    return code + (LONG, ("cut", many), ("join",))


def either(first, second):
    """Return code that runs one of two codes."""
    return (ON, ("unless", len(first) + 1)) + first + (("jump", len(second)),) + second


class Cases(unittest.TestCase):
    def accept(self, *code):
        with self.subTest(code=code):
            self.assertIsNone(fault_of(code))
            self.assertIsNone(judge(SCHEMA, code))

    def refuse(self, reason, index, *code):
        with self.subTest(code=code):
            self.assertEqual(fault_of(code), (index, reason))

    def refuse_last(self, reason, *code):
        """Expect the fault at the last instruction, wherever the code stands and whatever comes behind it."""
        self.refuse(reason, len(code) - 1, *code)
        self.refuse(reason, len(code) + 1, *SET_N, *code)
        self.refuse(reason, len(code) - 1, *code, *SET_N, ("add",), ("store", 99))

    def flag(self, *code):
        """Expect that the code pushes an integer that is not refused."""
        self.accept(*code, *TO_FLAG)

    def text(self, *code):
        """Expect that the code pushes a text that is not refused."""
        self.accept(*code, ("cut", 1), ("store", 3))


class Shape(Cases):
    def test_code_is_a_tuple(self):
        for value in ANYTHING:
            with self.subTest(value=value):
                self.assertEqual(fault_of(value), (0, "shape"))

    def test_the_empty_code(self):
        self.accept()

    def test_the_length_of_code(self):
        self.accept(*[("jump", 0)] * 400)
        self.refuse("shape", 0, *[("jump", 0)] * 401)
        self.refuse("shape", 0, *[("add",)] * 401)
        self.refuse("shape", 0, *[None] * 401)
        self.refuse("empty", 0, *[("add",)] * 400)
        self.accept(*SET_N * 200)
        self.refuse("shape", 0, *SET_N * 201)

    def test_any_value_in_the_place_of_an_instruction(self):
        for value in ANYTHING + ((), ("go",), ("add", 1), ("push",), ("load", True), ("cut", 41), ("div", 0), ("word", "A")):
            self.refuse("shape", 0, value)
            self.refuse("shape", 2, *SET_N, value)
            self.refuse("shape", 1, ("jump", 0), value, value)

    def test_the_form_comes_before_other_faults(self):
        for fault in (("add",), ("store", 0), ("load", 99), ("unless", 0), ("not",)):
            self.refuse("shape", 1, fault, ("go",))
            self.refuse("shape", 2, fault, fault, ("jump", 1))
        self.refuse("shape", 1, ("push", 1), ("push", 41 * "a"))
        self.refuse("shape", 3, ("push", 10), ("store", 0), ("push", True), ("unless", 1))

    def test_skips_lead_at_most_to_the_end(self):
        self.accept(("jump", 0))
        self.refuse("shape", 0, ("jump", 1))
        self.refuse("shape", 0, ("jump", BIG))
        self.accept(("jump", 2), *SET_N)
        self.refuse("shape", 0, ("jump", 3), *SET_N)
        self.accept(ON, ("unless", 0))
        self.refuse("shape", 1, ON, ("unless", 1))
        self.accept(ON, ("unless", 2), *SET_N)
        self.refuse("shape", 1, ON, ("unless", 3), *SET_N)

    def test_the_first_wrong_form_counts(self):
        self.refuse("shape", 1, ("push", 1), ("jump", 9), None)
        self.refuse("shape", 1, ("push", 1), None, ("jump", 9))

    def test_instructions_that_are_not_reached_have_the_form_too(self):
        self.refuse("shape", 1, ("jump", 1), None)
        self.refuse("shape", 1, ("jump", 1), ("jump", 1))
        self.refuse("shape", 1, ("jump", 1), ("push", LIMIT + 1))


class Faults(Cases):
    def test_too_few_entries(self):
        for head in ("add", "sub", "mul", "min", "max", "less", "same", "and", "or", "join"):
            self.refuse_last("empty", (head,))
        for head in ("add", "sub", "mul", "min", "max", "less"):
            self.refuse_last("empty", N, (head,))
        for head in ("and", "or", "same"):
            self.refuse_last("empty", ON, (head,))
        self.refuse_last("empty", NOTE, ("join",))
        self.refuse_last("empty", ("not",))
        self.refuse_last("empty", ("div", 2))
        self.refuse_last("empty", ("mod", 2))
        self.refuse_last("empty", ("cut", 2))
        self.refuse_last("empty", ("unless", 0))
        self.refuse_last("empty", ("store", 0))
        self.refuse_last("empty", ("pick",))
        self.refuse_last("empty", ON, ("pick",))
        self.refuse_last("empty", ON, N, ("pick",))
        self.refuse_last("empty", N, N, ("add",), ("add",))
        self.refuse_last("empty", N, ("store", 0), ("store", 0))

    def test_fields_that_do_not_exist(self):
        self.refuse_last("field", ("load", 6))
        self.refuse_last("field", ("load", BIG))
        self.refuse_last("field", N, ("store", 6))
        self.refuse_last("field", N, ("store", BIG))
        for index in range(6):
            self.accept(("load", index), ("store", index))
        with self.subTest("one field"):
            schema = SCHEMA[:1]
            self.assertIsNone(fault_of((("load", 0), ("store", 0)), schema))
            self.assertEqual(fault_of((("load", 1), ("store", 0)), schema), (0, "field"))

    def test_operands_of_a_wrong_kind(self):
        samples = {"int": N, "flag": ON, "word": STATE, "text": NOTE}
        right = {"and": "flag", "or": "flag", "join": "text"}
        for head in ("add", "sub", "mul", "min", "max", "less", "and", "or", "join", "same"):
            for a, first in samples.items():
                for b, second in samples.items():
                    wanted = right.get(head, "int")
                    fits = a == b if head == "same" else a == b == wanted
                    expected = (3, "left") if fits else (2, "kind")
                    with self.subTest(head=head, a=a, b=b):
                        self.assertEqual(fault_of((first, second, (head,))), expected)
        for instruction, wanted in ((("not",), "flag"), (("div", 2), "int"), (("mod", 2), "int"), (("cut", 2), "text")):
            for a, sample in samples.items():
                with self.subTest(instruction=instruction, a=a):
                    expected = (2, "left") if a == wanted else (1, "kind")
                    self.assertEqual(fault_of((sample, instruction)), expected)
        for a, first in samples.items():
            for b, second in samples.items():
                expected = (4, "left") if a == b else (3, "kind")
                self.assertEqual(fault_of((ON, first, second, ("pick",))), expected)
            if a != "flag":
                self.refuse_last("kind", first, N, N, ("pick",))

    def test_conditions_are_flags(self):
        self.accept(ON, ("unless", 0))
        self.accept(("push", True), ("unless", 0))
        for sample in (N, STATE, NOTE, ("push", 0), ("word", "new"), ("push", "new")):
            self.refuse_last("kind", sample, ("unless", 0))

    def test_stored_values_of_a_wrong_kind(self):
        samples = (N, ON, STATE, NOTE)
        for index in range(4):
            for other in range(4):
                if index != other:
                    self.refuse_last("kind", samples[other], ("store", index))

    def test_words_and_texts_are_kept_apart(self):
        self.accept(("word", "new"), ("store", 2))
        self.accept(("push", "new"), ("store", 3))
        self.refuse_last("kind", ("push", "new"), ("store", 2))
        self.refuse_last("kind", ("word", "new"), ("store", 3))
        self.refuse_last("kind", ("push", "new"), ("word", "new"), ("same",))
        self.refuse_last("kind", ("word", "new"), ("cut", 2))
        self.refuse_last("kind", ("word", "new"), ("word", "new"), ("join",))

    def test_large_integers(self):
        self.flag(*MOST)
        self.flag(*MOST, ("push", 0), ("add",))
        self.flag(("push", -LIMIT))
        self.flag(("push", -LIMIT), ("push", 1), ("add",))
        self.flag(("push", BIG), ("push", BIG), ("mul",))
        self.flag(("push", -BIG), ("push", BIG), ("mul",))
        self.flag(*MOST, ("push", LIMIT), ("sub",))
        for tail in (
            (("push", LIMIT), ("push", 1), ("add",)), (("push", -LIMIT), ("push", -1), ("add",)),
            (("push", -LIMIT), ("push", 1), ("sub",)), (("push", LIMIT), ("push", -1), ("sub",)),
            (("push", LIMIT), ("push", LIMIT), ("mul",)), (("push", BIG), ("push", BIG + 1), ("mul",)),
            (("push", -BIG), ("push", BIG + 1), ("mul",)), (("push", LIMIT), N, ("add",)), (M, ("push", LIMIT), ("sub",)),
        ):
            self.refuse_last("large", *tail)

    def test_long_texts(self):
        self.text(*long_text(200))
        self.refuse_last("large", *long_text(201))
        self.refuse_last("large", *long_text(200), ("push", "a"), ("join",))
        self.text(*long_text(200), ("push", ""), ("join",))
        self.refuse_last("range", *long_text(6), ("store", 3))

    def test_the_range_of_a_store(self):
        for value in (0, 9):
            self.accept(("push", value), ("store", 0))
        for value in (-1, 10, LIMIT, -LIMIT):
            self.refuse_last("range", ("push", value), ("store", 0))
        for value in (-9, -4):
            self.accept(("push", value), ("store", 4))
        for value in (-10, -3):
            self.refuse_last("range", ("push", value), ("store", 4))
        self.refuse_last("range", N, ("push", 1), ("add",), ("store", 0))
        self.refuse_last("range", N, ("push", 1), ("sub",), ("store", 0))
        self.accept(N, ("push", 1), ("add",), ("push", 9), ("min",), ("store", 0))
        self.accept(("word", "old"), ("store", 2))
        self.refuse_last("range", ("word", "lost"), ("store", 2))
        self.refuse_last("range", ON, ("word", "lost"), ("word", "new"), ("pick",), ("store", 2))
        self.accept(("push", "abcde"), ("store", 3))
        self.refuse_last("range", ("push", "abcdef"), ("store", 3))
        self.refuse_last("range", LONG, ("store", 3))
        self.accept(LONG, ("cut", 5), ("store", 3))
        self.refuse_last("range", LONG, ("cut", 6), ("store", 3))
        self.accept(("push", False), ("store", 1))

    def test_texts_may_hold_quotes(self):
        self.accept(("push", '"\\'), ("store", 3))

    def test_what_is_left(self):
        self.refuse("left", 1, N)
        self.refuse("left", 2, N, ON)
        self.refuse("left", 3, *SET_N, ("word", "new"))
        self.refuse("left", 2, ("push", 1), ("jump", 0))
        self.refuse("left", 5, *either((N,), (N,)))

    def test_the_end_that_is_reached_by_a_skip_alone(self):
        self.accept(("jump", 1), N)
        self.accept(("jump", 2), N, ON)
        self.accept(("jump", 1), ("add",))
        self.refuse("left", 3, N, ("jump", 1), ("store", 0))

    def test_the_first_instruction_with_a_fault_counts(self):
        faults = {
            "empty": (("not",),), "field": (("load", 6),), "kind": (N, ("not",)), "large": (*MOST, *MOST, ("add",)),
            "range": (("push", 10), ("store", 0)),
        }
        for reason, code in faults.items():
            for other in faults.values():
                self.refuse(reason, len(code) - 1, *code, *other)
                self.refuse(reason, len(code) + 1, *SET_N, *code, *other)

    def test_the_order_at_one_instruction(self):
        # A store into a field that does not exist, of no value: the stack is asked first.
        self.refuse_last("empty", ("store", 6))
        # Too few entries, and one of a wrong kind.
        self.refuse_last("empty", ON, ("add",))
        self.refuse_last("empty", N, N, ("pick",))
        # A wrong kind, and a result that would be large.
        self.refuse_last("kind", *MOST, ON, ("mul",))
        self.refuse_last("kind", *long_text(200), ("word", "new"), ("join",))
        # A wrong kind, and a value out of the range.
        self.refuse_last("kind", ("push", 10), ("store", 1))
        self.refuse_last("kind", ("push", 99), ("store", 3))
        self.refuse_last("kind", ("push", "abcdefghi"), ("store", 0))
        # A field that does not exist, and a value that fits into none.
        self.refuse_last("field", *MOST, ("store", 6))
        self.refuse_last("field", *long_text(200), ("store", 7))


class Merging(Cases):
    def test_other_bounds(self):
        join = either((("push", 3),), (("push", 7),))
        self.accept(*join, ("store", 0))
        self.accept(*join, ("push", 2), ("add",), ("store", 0))
        self.refuse("range", 7, *join, ("push", 3), ("add",), ("store", 0))
        self.accept(*join, ("push", 3), ("sub",), ("store", 0))
        self.refuse("range", 7, *join, ("push", 4), ("sub",), ("store", 0))
        # With 3 to 7, and only with them, the remainder keeps the bounds.
        self.accept(*join, ("mod", 8), ("push", 2), ("add",), ("store", 0))
        self.refuse("range", 8, *join, ("mod", 7), ("push", 4), ("add",), ("store", 0))
        self.refuse("range", 8, *join, ("mod", 9), ("push", 4), ("sub",), ("store", 0))

    def test_each_way_counts(self):
        self.refuse("range", 5, *either((("push", 3),), (("push", 10),)), ("store", 0))
        self.refuse("range", 5, *either((("push", 10),), (("push", 3),)), ("store", 0))
        self.refuse("range", 5, *either((("push", -1),), (("push", 3),)), ("store", 0))
        self.refuse("range", 5, *either((("word", "new"),), (("word", "lost"),)), ("store", 2))
        self.refuse("range", 5, *either((("word", "lost"),), (("word", "new"),)), ("store", 2))
        self.accept(*either((("word", "old"),), (("word", "new"),)), ("store", 2))
        self.refuse("range", 5, *either((("push", "abc"),), (("push", "abcdef"),)), ("store", 3))
        self.refuse("range", 5, *either((("push", "abcdef"),), (("push", "abc"),)), ("store", 3))
        self.accept(*either((("push", "abc"),), (("push", ""),)), ("push", "ab"), ("join",), ("store", 3))
        self.accept(*either((("push", True),), (ON,)), ("store", 1))

    def test_large_results_behind_a_meeting(self):
        self.refuse("large", 6, *either(MOST, (("push", 0),)), ("push", 1), ("add",))
        self.refuse("large", 6, *either((("push", 0),), MOST), ("push", 1), ("add",))
        self.flag(*either((("push", 0),), MOST), ("push", 1), ("sub",))

    def test_entries_below(self):
        join = either((("push", 1), ("push", 2)), (("push", 5), ("push", 4)))
        self.accept(*join, ("store", 0), ("store", 0))
        # 1 to 5 below 2 to 4
        self.accept(*join, ("push", 5), ("add",), ("store", 0), ("push", 4), ("add",), ("store", 0))
        self.refuse("range", 9, *join, ("push", 6), ("add",), ("store", 0), ("store", 0))
        self.accept(*join, ("push", 5), ("add",), ("store", 0), ("push", 1), ("sub",), ("store", 0))
        self.refuse("range", 12, *join, ("push", 5), ("add",), ("store", 0), ("push", 2), ("sub",), ("store", 0))
        self.refuse("range", 12, *join, ("push", 5), ("add",), ("store", 0), ("push", 5), ("add",), ("store", 0))

    def test_unlike_kinds(self):
        for first in (N, ON, STATE, NOTE):
            for second in (N, ON, STATE, NOTE):
                code = either((first,), (second,))
                if first == second:
                    self.refuse("left", 5, *code)
                else:
                    self.refuse("merge", 5, *code)
                    self.refuse("merge", 5, *code, ("store", 0))
                    self.refuse("merge", 5, *code, ("store", 99))
        self.refuse("merge", 5, *either((("word", "new"),), (("push", "new"),)), ("store", 2))
        self.refuse("merge", 5, *either((("push", "new"),), (("word", "new"),)), ("store", 3))

    def test_unlike_kinds_below(self):
        self.refuse("merge", 7, *either((N, ON), (ON, ON)), ("store", 1))
        self.refuse("merge", 7, *either((ON, N), (ON, ON)), ("store", 1))
        self.refuse("merge", 7, *either((N, ON), (ON, N)), ("store", 1))

    def test_unlike_numbers_of_entries(self):
        self.refuse("merge", 4, *either((N,), ()))
        self.refuse("merge", 4, *either((), (N,)))
        self.refuse("merge", 5, *either((N, N), ()), ("store", 0))
        self.refuse("merge", 6, *either((N, N), (N,)), ("store", 0))
        self.refuse("merge", 6, *either((N,), (N, N)), ("store", 0))

    def test_merge_comes_first_at_an_instruction(self):
        for instruction in (("add",), ("store", 0), ("load", 99), ("store", 99), ("not",), ("pick",), ("unless", 0)):
            self.refuse("merge", 4, *either((N,), ()), instruction)
            self.refuse("merge", 4, *either((), (N,)), instruction)
            self.refuse("merge", 5, *either((N,), (ON,)), instruction)
        self.refuse("merge", 5, *either((("push", LIMIT),), (ON,)), ("store", 0))
        self.refuse("merge", 7, *either((*MOST, *MOST), (ON, *MOST)), ("add",))

    def test_merge_comes_before_left_at_the_end(self):
        self.refuse("merge", 4, *either((N,), ()))
        self.refuse("merge", 5, *either((N,), (ON,)))
        self.refuse("left", 5, *either((N,), (("push", 99),)))
        self.refuse("merge", 3, ON, ("unless", 1), N)

    def test_a_fault_before_the_meeting_comes_first(self):
        self.refuse("kind", 3, *either((N, ("not",)), (ON, N)))
        self.refuse("empty", 4, *either((N,), (("not",),)))

    def test_three_ways(self):
        def choice(first, second, third):
            return either((first,), either((second,), (third,)))

        three = (("push", 2), ("push", 5), ("push", 8))
        for first, second, third in ((0, 1, 2), (1, 2, 0), (2, 0, 1), (2, 1, 0)):
            code = choice(three[first], three[second], three[third])
            self.accept(*code, ("push", 1), ("add",), ("store", 0))
            self.refuse("range", len(code) + 2, *code, ("push", 2), ("add",), ("store", 0))
            self.accept(*code, ("push", 2), ("sub",), ("store", 0))
            self.refuse("range", len(code) + 2, *code, ("push", 3), ("sub",), ("store", 0))
        for first, second, third in ((N, N, ON), (N, ON, N), (ON, N, N), (N, N, STATE)):
            code = choice(first, second, third)
            self.refuse("merge", len(code), *code, ("store", 0))

    def test_three_skips_to_one_place(self):
        # Each skip leads to the store, with another integer on the stack.
        code = (
            ("push", 2), ON, ("unless", 8), ("store", 0), ("push", 5), ON, ("unless", 4), ("store", 0), ("push", 8),
            ("jump", 1), ("add",),
        )
        self.accept(*code, ("store", 0))
        self.accept(*code, ("push", 1), ("add",), ("store", 0))
        self.refuse("range", 13, *code, ("push", 2), ("add",), ("store", 0))
        self.accept(*code, ("push", 2), ("sub",), ("store", 0))
        self.refuse("range", 13, *code, ("push", 3), ("sub",), ("store", 0))

    def test_a_skip_of_0(self):
        self.accept(ON, ("unless", 0))
        self.accept(N, ON, ("unless", 0), ("store", 0))
        self.accept(N, ("jump", 0), ("store", 0))
        self.refuse("empty", 2, ON, ("unless", 0), ("store", 0))
        self.refuse("range", 4, ("push", 10), ON, ("unless", 0), ("jump", 0), ("store", 0))

    def test_the_bounds_of_a_field_stay_those_of_its_kind(self):
        self.refuse("range", 5, ("push", 1), ("store", 0), N, ("push", 1), ("add",), ("store", 0))
        self.refuse("range", 5, ("push", "a"), ("store", 3), NOTE, ("push", "b"), ("join",), ("store", 3))

    def test_words_are_joined(self):
        schema = (("a", ("word", ("x", "y"))), ("b", ("word", ("y", "z"))), ("c", ("word", ("x", "y", "z"))), ("on", ("flag",)))
        join = (("load", 3), ("unless", 2), ("load", 0), ("jump", 1), ("load", 1))
        self.assertIsNone(fault_of(join + (("store", 2),), schema))
        self.assertEqual(fault_of(join + (("store", 0),), schema), (5, "range"))
        self.assertEqual(fault_of(join + (("store", 1),), schema), (5, "range"))


class NotReached(Cases):
    def test_faults_that_are_not_reached(self):
        for fault in (("add",), ("store", 0), ("store", 99), ("load", 99), ("not",), ("pick",), ("unless", 0), ("push", 1)):
            self.accept(("jump", 1), fault)
            self.accept(("jump", 3), fault, fault, fault)
            self.accept(("push", 1), ("jump", 1), fault, ("store", 0))
        self.accept(*either((("jump", 1), ("load", 99)), (("jump", 2), ("add",), ("add",))))
        self.refuse("range", 4, ("push", 10), ("jump", 2), ("store", 0), ("add",), ("store", 0))

    def test_a_skip_that_is_not_reached_leads_nowhere(self):
        # If the jump in the middle were reached, two entries would meet none.
        self.accept(("jump", 3), N, N, ("jump", 0))
        self.accept(("jump", 2), ("unless", 1), ("jump", 0), ("jump", 0))
        self.accept(N, ("jump", 2), ON, ("jump", 0), ("store", 0))
        self.accept(("jump", 2), N, ("jump", 1), ("jump", 1), ("add",))

    def test_what_a_skip_leads_to_is_reached(self):
        self.refuse("empty", 2, ("jump", 1), N, ("add",))
        self.refuse("empty", 3, ON, ("unless", 1), ("jump", 1), ("add",))
        self.refuse("empty", 2, ON, ("unless", 1), ("add",), ("jump", 0))


class Promise(unittest.TestCase):
    def test_accepted_code_makes_records(self):
        codes = CodeMaker(117)
        records = ProgramMaker(117)
        accepted = 0
        for _ in range(700):
            code = codes.code(codes.random.randint(0, 60))
            if fault_of(code, WIDE) is None:
                accepted += 1
                for _ in range(6):
                    record = records.record()
                    self.assertTrue(is_record(WIDE, run(code, record)), (code, record))
        self.assertGreater(accepted, 300)

    def test_broken_code_that_is_accepted_makes_records(self):
        codes = CodeMaker(118)
        records = ProgramMaker(118)
        accepted = 0
        for _ in range(6000):
            code = list(codes.code(codes.random.randint(0, 12)))
            other = codes.code(10)
            for _ in range(codes.random.randint(1, 2)):
                at = codes.random.randrange(len(code) + 1)
                code[at:at + codes.random.randint(0, 1)] = other[:codes.random.randint(0, 1)]
            if fault_of(tuple(code), WIDE) is None:
                accepted += 1
                for _ in range(3):
                    record = records.record()
                    self.assertTrue(is_record(WIDE, run(tuple(code), record)), (code, record))
        self.assertGreater(accepted, 300)

    def test_the_arguments_stay(self):
        code = either((("push", 3),), (("push", 7),)) + (("store", 0),)
        schema = copy.deepcopy(SCHEMA)
        kept = copy.deepcopy(code)
        judge(schema, code)
        self.assertEqual((schema, code), (SCHEMA, kept))

    def test_the_example_of_the_document(self):
        code = (("load", 0), ("push", 1), ("add",), ("store", 0))
        self.assertEqual(fault_of(code, (("n", ("int", 0, 9)),)), (3, "range"))


if __name__ == "__main__":
    unittest.main()
