"""Tests of the instructions of point 113 and the machine of point 114."""

import copy
import unittest

from sinktree.machine import is_instruction, run

LIMIT = 10 ** 18
BIG = 10 ** 9
PERCENT = chr(37)
RECORD = (7, True, "old", "abc", -7)
BARE = ("add", "sub", "mul", "min", "max", "less", "same", "and", "or", "join", "not", "pick")
ENDS = {
    "load": (0, BIG), "store": (0, BIG), "div": (1, BIG), "mod": (1, BIG), "cut": (0, 40), "jump": (0, BIG),
    "unless": (0, BIG), "push": (-LIMIT, LIMIT),
}
ANYTHING = (
    None, True, False, 0, 1, -1, 1.0, 10 ** 30, "", "add", "push", b"add", (), [], {}, set(), (None,), ((),), [()],
    ("",), (0,), (True,), ("add", "add"), object(), int, len, range(3), (["push"], 1), ({}, 1), (b"add",), ("Add",),
    ("add ",), ("go",), ("go", 1), ("if",), ("set", 1), ("skip",), ("int", 1), ("flag", True), ("field", "n"),
    ("text", "a"),
)


class Instructions(unittest.TestCase):
    def accept(self, value):
        with self.subTest(value=value):
            self.assertIs(is_instruction(value), True)

    def refuse(self, value):
        with self.subTest(value=value):
            self.assertIs(is_instruction(value), False)

    def test_bare_instructions(self):
        for head in BARE:
            self.accept((head,))
            self.refuse((head, 1))
            self.refuse((head, None))
            self.refuse((head, ()))
            self.refuse((head, head))
            self.refuse((head, 1, 1))

    def test_instructions_with_a_number(self):
        for head, (low, high) in ENDS.items():
            for number in (low, low + 1, high - 1, high):
                self.accept((head, number))
                self.refuse((head, number, number))
            self.refuse((head, low - 1))
            self.refuse((head, high + 1))
            self.refuse((head,))

    def test_numbers_are_integers(self):
        for head in ENDS:
            for value in (None, 1.0, (1,), [1], b"1", {}, object()):
                self.refuse((head, value))
        for head in ENDS:
            if head != "push":
                for value in (True, False, "1", "a", ""):
                    self.refuse((head, value))

    def test_push_of_flags(self):
        self.accept(("push", True))
        self.accept(("push", False))
        self.refuse(("push", True, True))

    def test_push_of_strings(self):
        for text in ("", "a", "A b.~", "a" * 40, '"', "\\", "'", " " * 40, "~", "new"):
            self.accept(("push", text))
        for text in ("a" * 41, "\n", "a\n", "\t", "\x7f", "\x1f", PERCENT, "a" + PERCENT + "b", "\u00e4", "\U0001f600"):
            self.refuse(("push", text))

    def test_words(self):
        for word in ("a", "z", "new", "abcdefghijkl", "if", "skip", "push"):
            self.accept(("word", word))
            self.refuse(("word", word, word))
        for word in ("", "abcdefghijklm", "New", "a b", "a1", "\u00e4", "'a", '"a"', "a\n", None, 1, True, b"a", ("a",), ["a"]):
            self.refuse(("word", word))
        self.refuse(("word",))

    def test_lists_are_no_instructions(self):
        for instruction in (("push", 1), ("word", "a"), ("load", 0), ("store", 0), ("add",), ("jump", 0)):
            self.accept(instruction)
            self.refuse(list(instruction))

    def test_any_value_gets_an_answer(self):
        for value in ANYTHING:
            self.refuse(value)
        deep = ()
        for _ in range(100000):
            deep = (deep,)
        self.assertIs(is_instruction(deep), False)
        self.assertIs(is_instruction(("push", deep)), False)


class Machine(unittest.TestCase):
    def expect(self, code, result, record=RECORD):
        kept = copy.deepcopy((code, record))
        with self.subTest(code=code, record=record):
            found = run(code, record)
            self.assertEqual(found, result)
            self.assertIsInstance(found, tuple)
            self.assertEqual([type(value) for value in found], [type(value) for value in result])
            self.assertEqual((code, record), kept)

    def result(self, code, value):
        """Expect a value of the instructions, which is stored in the last field."""
        self.expect(tuple(code) + (("store", 4),), RECORD[:4] + (value,))

    def binary(self, head, a, b, value):
        self.result((("push", a), ("push", b), (head,)), value)

    def test_the_empty_code(self):
        self.expect((), RECORD)

    def test_push(self):
        for value in (0, 1, -1, LIMIT, -LIMIT, True, False, "", "a b", '"', "\\"):
            self.result((("push", value),), value)

    def test_word(self):
        self.result((("word", "new"),), "new")

    def test_load(self):
        for index, value in enumerate(RECORD):
            self.result((("load", index),), value)

    def test_store(self):
        self.expect((("push", 1), ("store", 0)), (1, True, "old", "abc", -7))
        self.expect((("push", False), ("store", 1)), (7, False, "old", "abc", -7))
        self.expect((("word", "new"), ("store", 2)), (7, True, "new", "abc", -7))
        self.expect((("push", ""), ("store", 3)), (7, True, "old", "", -7))

    def test_load_reads_what_was_stored(self):
        self.expect((("push", 1), ("store", 0), ("load", 0), ("store", 4)), (1, True, "old", "abc", 1))
        self.expect((("load", 0), ("push", 1), ("store", 0), ("store", 4)), (1, True, "old", "abc", 7))

    def test_store_pops_the_last_value(self):
        self.expect((("push", 1), ("push", 2), ("store", 0), ("store", 4)), (2, True, "old", "abc", 1))

    def test_integers(self):
        self.binary("add", 7, -9, -2)
        self.binary("sub", 7, 9, -2)
        self.binary("sub", 9, 7, 2)
        self.binary("mul", -7, 9, -63)
        self.binary("min", 7, 9, 7)
        self.binary("min", 9, -7, -7)
        self.binary("max", 7, 9, 9)
        self.binary("max", 9, -7, 9)

    def test_comparisons(self):
        self.binary("less", 7, 9, True)
        self.binary("less", 9, 7, False)
        self.binary("less", 7, 7, False)
        self.binary("same", 7, 7, True)
        self.binary("same", 7, 9, False)
        self.binary("same", True, True, True)
        self.binary("same", True, False, False)
        self.binary("same", "a", "a", True)
        self.binary("same", "a", "b", False)
        self.result((("word", "new"), ("word", "new"), ("same",)), True)
        self.result((("word", "new"), ("word", "old"), ("same",)), False)

    def test_flags(self):
        for a in (True, False):
            self.result((("push", a), ("not",)), not a)
            for b in (True, False):
                self.binary("and", a, b, a and b)
                self.binary("or", a, b, a or b)

    def test_quotients_and_remainders(self):
        for value, divisor in ((7, 2), (-7, 2), (-1, BIG), (6, 3), (-6, 3), (5, 1)):
            self.result((("push", value), ("div", divisor)), value // divisor)
            self.result((("push", value), ("mod", divisor)), value % divisor)
        self.result((("push", -7), ("div", 2)), -4)
        self.result((("push", -7), ("mod", 4)), 1)

    def test_texts(self):
        self.binary("join", "ab", "c", "abc")
        self.binary("join", "", "", "")
        self.result((("push", "abc"), ("cut", 2)), "ab")
        self.result((("push", "abc"), ("cut", 0)), "")
        self.result((("push", "abc"), ("cut", 40)), "abc")

    def test_pick(self):
        self.result((("push", True), ("push", 1), ("push", 2), ("pick",)), 1)
        self.result((("push", False), ("push", 1), ("push", 2), ("pick",)), 2)
        self.result((("push", True), ("push", False), ("push", True), ("pick",)), False)

    def test_operators_leave_what_stands_below(self):
        below = (("push", 100), ("push", 20), ("push", 3))
        code = below + (("sub",), ("sub",))
        self.result(code, 83)
        self.result((("push", 5), ("push", True), ("push", 1), ("push", 2), ("pick",), ("sub",)), 4)
        self.result((("push", 5), ("push", 7), ("div", 2), ("sub",)), 2)
        self.result((("push", True), ("push", False), ("not",), ("and",)), True)

    def test_jump(self):
        tail = (("push", 1), ("store", 0), ("push", 2), ("store", 4))
        self.expect((("jump", 0),) + tail, (1, True, "old", "abc", 2))
        self.expect((("jump", 2),) + tail, (7, True, "old", "abc", 2))
        self.expect((("jump", 4),) + tail, RECORD)
        self.expect((("jump", 0),), RECORD)
        self.expect((("push", 5), ("jump", 1), ("add",), ("store", 0)), (5, True, "old", "abc", -7))

    def test_unless(self):
        tail = (("push", 1), ("store", 0), ("push", 2), ("store", 4))
        for k, skipped in ((0, (1, True, "old", "abc", 2)), (2, (7, True, "old", "abc", 2)), (4, RECORD)):
            self.expect((("push", True), ("unless", k)) + tail, (1, True, "old", "abc", 2))
            self.expect((("push", False), ("unless", k)) + tail, skipped)
        self.expect((("push", False), ("unless", 0)), RECORD)
        self.expect((("push", 5), ("push", False), ("unless", 1), ("add",), ("store", 0)), (5, True, "old", "abc", -7))

    def test_skips_behind_each_other(self):
        code = (
            ("load", 1), ("unless", 3), ("push", 1), ("store", 0), ("jump", 2), ("push", 2), ("store", 0),
            ("push", 3), ("store", 4),
        )
        self.expect(code, (1, True, "old", "abc", 3))
        self.expect(code, (2, False, "old", "abc", 3), (7, False, "old", "abc", -7))

    def test_other_records(self):
        self.expect((("load", 0), ("push", 1), ("add",), ("store", 0)), (1,), (0,))
        self.expect((("load", 1), ("load", 0), ("store", 1), ("store", 0)), ("b", "a"), ("a", "b"))


if __name__ == "__main__":
    unittest.main()
