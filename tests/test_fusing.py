"""Tests of shortened code and of fused code: points 120 and 121."""

import copy
import itertools
import random
import time
import unittest

from sinktree.errors import BadCode
from sinktree.fusing import fuse, shorten
from sinktree.judge import judge
from sinktree.machine import run
from tests.makers import SCHEMA, CodeMaker, ProgramMaker

LIMIT = 10 ** 18
L0, L1, S0, S1 = ("load", 0), ("load", 1), ("store", 0), ("store", 1)
ADD, SUB, MUL, LESS, NOT = ("add",), ("sub",), ("mul",), ("less",), ("not",)
J0 = ("jump", 0)
NEW = ("word", "new")


def p(value):
    return ("push", value)


def j(many):
    return ("jump", many)


def u(many):
    return ("unless", many)


class Node:
    """An instruction that knows where it skips to, instead of how far."""

    def __init__(self, instruction):
        self.instruction = instruction
        self.goal = None


def reference(code):
    """Shorten code as point 120 says, with skips that know where they lead."""
    nodes = [Node(instruction) for instruction in code] + [Node(("end",))]
    for index, node in enumerate(nodes):
        if node.instruction[0] in ("jump", "unless"):
            node.goal = nodes[index + 1 + node.instruction[1]]
    while reference_step(nodes):
        pass
    result = []
    for index, node in enumerate(nodes[:-1]):
        result.append(node.instruction if node.goal is None else (node.instruction[0], nodes.index(node.goal) - index - 1))
    return tuple(result)


def drop(nodes, first, many):
    behind = nodes[first + many]
    for node in nodes:
        if node.goal is not None and node.goal in nodes[first:first + many]:
            node.goal = behind
    del nodes[first:first + many]


def reference_step(nodes):
    goals = [node.goal for node in nodes if node.goal is not None]
    ops = [node.instruction for node in nodes] + [("end",)] * 3
    free = [node not in goals for node in nodes] + [False] * 3
    many = len(nodes) - 1
    for k in range(many):
        if ops[k][0] == "jump" and nodes[k].goal is nodes[k + 1]:
            drop(nodes, k, 1)
            return True
    for k in range(many):
        if ops[k][0] == "load" and ops[k + 1] == ("store", ops[k][1]) and free[k + 1]:
            drop(nodes, k, 2)
            return True
    for k in range(many):
        heads = [op[0] for op in ops[k:k + 4]]
        pushes = ("push", "word", "load")
        if heads[0] in pushes and heads[2] in pushes and heads[1] == heads[3] == "store" and ops[k + 1] == ops[k + 3]:
            if ops[k + 2] != ("load", ops[k + 1][1]) and free[k + 1] and free[k + 2] and free[k + 3]:
                drop(nodes, k, 2)
                return True
    for k in range(many):
        a, b, op = ops[k:k + 3]
        if a[0] == b[0] == "push" and type(a[1]) is type(b[1]) is int and free[k + 1] and free[k + 2]:
            value = {"add": a[1] + b[1], "sub": a[1] - b[1], "mul": a[1] * b[1], "min": min(a[1], b[1]),
                     "max": max(a[1], b[1])}.get(op[0])
            if value is not None and abs(value) <= LIMIT:
                nodes[k].instruction = ("push", value)
                drop(nodes, k + 1, 2)
                return True
    return False


class Cases(unittest.TestCase):
    def expect(self, code, result):
        kept = copy.deepcopy(code)
        with self.subTest(code=code):
            found = shorten(code)
            self.assertEqual(repr(found), repr(result))
            self.assertIsInstance(found, tuple)
            self.assertEqual(code, kept)
            self.assertEqual(shorten(found), found)

    def stays(self, *code):
        self.expect(code, code)


class EmptyJump(Cases):
    def test_it_is_removed(self):
        self.expect((J0,), ())
        self.expect((J0, J0, J0), ())
        self.expect((L0, J0, S1), (L0, S1))
        self.expect((L0, S1, J0), (L0, S1))
        self.stays(j(1), L0)
        self.stays(L0, u(0), S1)

    def test_a_target_is_removed_too(self):
        self.expect((L0, u(1), S1, J0, L1), (L0, u(1), S1, L1))
        self.expect((L0, u(0), J0, L1), (L0, u(0), L1))
        self.expect((L0, u(2), S1, NOT, J0), (L0, u(2), S1, NOT))

    def test_jumps_that_become_empty(self):
        self.expect((j(1), J0, L0), (L0,))
        self.expect((j(2), J0, J0), ())
        self.expect((j(2), j(1), J0, L1), (L1,))
        self.expect((j(2), L0, S0, L1), (L1,))
        self.expect((j(3), j(2), L0, S0, L1), (L1,))


class IdleStore(Cases):
    def test_it_is_removed(self):
        self.expect((L0, S0), ())
        self.expect((L1, S1, L0, S0), ())
        self.expect((p(1), L0, S0, S1), (p(1), S1))
        self.expect((L0, L0, S0, S0), ())
        self.expect((("load", 10 ** 9), ("store", 10 ** 9)), ())

    def test_other_fields_stay(self):
        self.stays(L0, S1)
        self.stays(L1, S0)
        self.stays(S0, L0)
        self.stays(L0, L0)
        self.stays(L0, NOT, S0)
        self.stays(p(0), S0)
        self.stays(L0)

    def test_a_store_that_is_a_target_stays(self):
        self.stays(p(1), L1, u(1), L0, S0)
        self.stays(j(1), L0, S0)
        self.stays(p(1), j(1), L0, S0)

    def test_a_load_that_is_a_target_does_not_prevent_it(self):
        self.expect((L1, u(1), NOT, L0, S0, L1), (L1, u(1), NOT, L1))
        self.expect((L1, u(0), L0, S0), (L1, u(0)))
        self.expect((L1, u(2), L0, S0), (L1, u(0)))
        self.expect((L1, u(1), NOT, L0, S0), (L1, u(1), NOT))


class LostStore(Cases):
    def test_it_is_removed(self):
        for first in (p(1), p(True), p("a"), NEW, L1):
            for second in (p(2), p(False), p("b"), ("word", "old"), ("load", 2)):
                self.expect((first, S0, second, S0), (second, S0))
        self.expect((L1, S0, L1, S0), (L1, S0))
        self.expect((p(1), S0, p(2), S0, p(3), S0), (p(3), S0))
        self.expect((NOT, p(1), S0, p(2), S0, NOT), (NOT, p(2), S0, NOT))

    def test_other_instructions_stay(self):
        self.stays(p(1), S0, p(2), S1)
        self.stays(p(1), S1, p(2), S0)
        self.stays(p(1), S0, L0, NOT, S0)
        self.stays(p(1), S0, p(2), NOT, S0)
        self.stays(p(1), NOT, S0, p(2), S0)
        self.stays(NOT, S0, p(2), S0)
        self.stays(p(1), S0, NOT, S0)
        self.stays(p(1), S0, p(2))
        self.stays(p(1), S0, S0)
        self.stays(p(1), S0)

    def test_a_load_of_the_field_stays(self):
        # The load of the field itself is idle, so it is removed by the step before.
        self.expect((p(1), S0, L0, S0), (p(1), S0))
        self.expect((L1, S0, L0, S0), (L1, S0))
        # With a target behind it, no step applies.
        self.stays(j(3), p(1), S0, L0, S0)
        self.stays(j(1), L0, S0)

    def test_the_first_may_load_the_field(self):
        self.expect((L0, S0, p(1), S0), (p(1), S0))
        # The store of the idle pair is a target: so no step applies.
        self.stays(NOT, j(1), L0, S0, p(1), S0)

    def test_targets(self):
        self.expect((L1, u(1), NOT, p(1), S0, p(2), S0), (L1, u(1), NOT, p(2), S0))
        self.expect((L1, u(0), p(1), S0, p(2), S0), (L1, u(0), p(2), S0))
        self.stays(L1, u(1), p(1), S0, p(2), S0)
        self.stays(L1, u(2), p(1), S0, p(2), S0)
        self.stays(L1, u(3), p(1), S0, p(2), S0)
        self.expect((L1, u(4), p(1), S0, p(2), S0), (L1, u(2), p(2), S0))
        for many in (2, 3, 4):
            self.stays(L1, u(many), NOT, p(1), S0, p(2), S0)
        self.expect((L1, u(5), NOT, p(1), S0, p(2), S0, NOT), (L1, u(3), NOT, p(2), S0, NOT))


class FoldedPushes(Cases):
    def test_each_operator(self):
        for head, value in (("add", 4), ("sub", 10), ("mul", -21), ("min", -3), ("max", 7)):
            self.expect((p(7), p(-3), (head,)), (p(value),))
        for head, value in (("add", 4), ("sub", -10), ("mul", -21), ("min", -3), ("max", 7)):
            self.expect((p(-3), p(7), (head,)), (p(value),))
        self.expect((p(0), p(0), MUL), (p(0),))

    def test_other_instructions_stay(self):
        for head in ("less", "same"):
            self.stays(p(7), p(3), (head,))
        self.stays(p(7), ("div", 2))
        self.stays(p(7), p(3), ("mod", 2))
        self.stays(p(7), p(3))
        self.stays(p(7), L0, ADD)
        self.stays(L0, p(7), ADD)
        self.stays(p(7), ADD)
        self.stays(p("a"), p("b"), ("join",))
        self.stays(p(7), p(3), NOT, ADD)

    def test_flags_texts_and_words_stay(self):
        for head in ("add", "sub", "mul", "min", "max", "and", "or"):
            for a, b in itertools.product((True, "a", 3), repeat=2):
                if (a, b) != (3, 3):
                    self.stays(p(a), p(b), (head,))
        self.stays(NEW, NEW, ("min",))
        self.stays(NEW, p(1), ("min",))
        self.stays(p(1), NEW, ("max",))

    def test_the_limits(self):
        self.expect((p(LIMIT - 1), p(1), ADD), (p(LIMIT),))
        self.stays(p(LIMIT), p(1), ADD)
        self.expect((p(1 - LIMIT), p(1), SUB), (p(-LIMIT),))
        self.stays(p(-LIMIT), p(1), SUB)
        self.stays(p(-LIMIT), p(-1), ADD)
        self.expect((p(10 ** 9), p(10 ** 9), MUL), (p(LIMIT),))
        self.stays(p(10 ** 9), p(10 ** 9 + 1), MUL)
        self.expect((p(LIMIT), p(-LIMIT), ("min",)), (p(-LIMIT),))
        self.expect((p(LIMIT), p(-LIMIT), ("max",)), (p(LIMIT),))

    def test_targets(self):
        self.expect((L1, u(1), NOT, p(1), p(2), ADD), (L1, u(1), NOT, p(3)))
        self.expect((L1, u(0), p(1), p(2), ADD), (L1, u(0), p(3)))
        self.stays(L1, u(1), p(1), p(2), ADD)
        self.stays(L1, u(2), p(1), p(2), ADD)
        self.expect((L1, u(3), p(1), p(2), ADD), (L1, u(1), p(3)))
        self.stays(L1, u(2), NOT, p(1), p(2), ADD)
        self.stays(L1, u(3), NOT, p(1), p(2), ADD)
        self.expect((L1, u(4), NOT, p(1), p(2), ADD, NOT), (L1, u(2), NOT, p(3), NOT))

    def test_several_in_a_row(self):
        self.expect((p(1), p(2), ADD, p(3), MUL), (p(9),))
        self.expect((p(1), p(2), p(3), ADD, MUL), (p(5),))
        self.expect((p(LIMIT), p(1), p(2), SUB, ADD), (p(LIMIT - 1),))
        self.expect((p(LIMIT), p(1), ADD, p(2), p(3), ADD), (p(LIMIT), p(1), ADD, p(5)))


class Order(Cases):
    def test_steps_that_make_others_possible(self):
        # An idle pair between two pushes.
        self.expect((p(1), L0, S0, p(2), ADD), (p(3),))
        # A jump between a load and a store.
        self.expect((L0, J0, S0), ())
        self.expect((p(1), J0, S0, J0, p(2), S0), (p(2), S0))
        # A sum that makes a store a lost one.
        self.expect((p(1), p(2), ADD, S0, p(4), S0), (p(4), S0))
        self.expect((p(1), S0, p(1), p(2), ADD, S0), (p(3), S0))
        # A jump that becomes empty, and then is no skip any more.
        self.expect((j(2), L0, S0, p(1), p(2), ADD), (p(3),))
        self.expect((L1, j(2), L0, S0, S1), ())

    def test_a_removed_jump_leads_nowhere(self):
        # The jump alone makes the store a target.
        self.expect((L0, J0, S0), ())
        self.expect((p(1), J0, p(2), J0, ADD), (p(3),))
        self.expect((p(1), J0, S0, J0, p(2), J0, S0), (p(2), S0))
        # Another skip does so, too.
        self.stays(j(1), L0, S0)
        self.expect((j(2), L0, J0, S0), (j(1), L0, S0))

    def test_the_idle_store_comes_before_the_lost_store(self):
        # Removing the lost store first would leave (L1, S0).
        self.expect((L0, S0, L1, S0), (L1, S0))
        # The load and the store of field 0 are idle: the store of 1 stays, and is not lost.
        self.expect((p(1), S0, L0, S0), (p(1), S0))
        # The idle pair is removed first, and then nothing stands between the others.
        self.expect((p(1), S1, L0, S0, p(2), S1), (p(2), S1))

    def test_the_lost_store_comes_before_the_sum(self):
        self.expect((p(1), p(2), ADD, p(3), S0, p(4), S0, ADD), (p(3), p(4), S0, ADD))

    def test_the_first_place_counts(self):
        # Of three pushes, only the last two stand before an operator.
        self.expect((p(9), p(5), p(2), SUB, SUB), (p(6),))
        self.expect((p(LIMIT), p(LIMIT), p(2), SUB, SUB), (p(2),))
        # Each step leaves what the step at the next place would need.
        self.expect((L0, S0, L0, S0, L0), (L0,))
        self.expect((L0, L0, S0, S0, S0), (S0,))

    def test_skips_over_what_is_removed(self):
        self.expect((L1, u(3), L0, S0, NOT, S1), (L1, u(1), NOT, S1))
        self.expect((L1, u(6), L0, S0, p(1), p(2), ADD, J0, S1), (L1, u(1), p(3), S1))
        self.expect((L1, u(4), NOT, u(3), L0, S0, J0, NOT), (L1, u(2), NOT, u(0), NOT))
        self.expect((L1, u(1), NOT, L0, S0, S1), (L1, u(1), NOT, S1))
        self.expect((L1, u(1), NOT, S1, L0, S0), (L1, u(1), NOT, S1))
        self.expect((L0, S0, L1, u(1), NOT, S1), (L1, u(1), NOT, S1))

    def test_skips_to_what_is_removed(self):
        self.expect((L1, u(2), NOT, NOT, J0, S1), (L1, u(2), NOT, NOT, S1))
        self.expect((L1, u(2), NOT, NOT, L0, S0, S1), (L1, u(2), NOT, NOT, S1))
        self.expect((L1, u(2), NOT, NOT, p(1), S0, p(2), S0), (L1, u(2), NOT, NOT, p(2), S0))
        self.expect((L1, u(2), NOT, NOT, p(1), p(2), ADD), (L1, u(2), NOT, NOT, p(3)))

    def test_instructions_that_are_not_reached(self):
        self.expect((j(2), p(1), p(2), ADD), (j(2), p(1), p(2), ADD))
        self.expect((j(3), p(1), p(2), ADD), (j(1), p(3)))
        self.expect((j(4), L0, S0, p(1), S1), (j(2), p(1), S1))

    def test_the_empty_code(self):
        self.expect((), ())


class Large(Cases):
    def test_codes_of_800_instructions(self):
        sums = (p(0),) + (p(1), ADD) * 399
        for code, result in (
            ((J0,) * 800, ()),
            ((L0, S0) * 400, ()),
            ((p(1), S0) * 400, (p(1), S0)),
            (tuple(p(k) if k % 2 == 0 else S0 for k in range(800)), (p(798), S0)),
            ((p(1),) * 400 + (ADD,) * 399 + (S0,), (p(400), S0)),
            (sums + (S0,), (p(399), S0)),
            ((L0,) * 400 + (S0,) * 400, ()),
            ((L0, S1) * 400, (L0, S1)),
            ((L0, NOT) * 400, (L0, NOT) * 400),
            ((j(1),) * 799 + (J0,), ()),
            (tuple(j(799 - k) for k in range(800)), ()),
            ((L1, u(798)) + (L0, S0) * 399, (L1, u(0))),
        ):
            self.assertEqual(len(code), 800)
            began = time.monotonic()
            self.expect(code, result)
            self.assertLess(time.monotonic() - began, 20)

    def test_the_reference(self):
        maker = random.Random(120)
        heads = [L0, L1, L0, S0, S1, S0, p(1), p(2), p(-3), p(True), p("a"), NEW, ADD, ADD, SUB, MUL, ("min",), ("max",), LESS, NOT]
        for _ in range(6000):
            many = maker.choice((3, 5, 8, 12, 30))
            skips = maker.choice((0, 0.1, 0.3))
            code = []
            for k in range(many):
                if maker.random() < skips:
                    code.append((maker.choice(("jump", "unless")), min(maker.randint(0, 6), many - k - 1)))
                else:
                    code.append(maker.choice(heads))
            self.assertEqual(repr(shorten(tuple(code))), repr(reference(tuple(code))), code)

    def test_the_reference_with_long_codes(self):
        codes = CodeMaker(120)
        for _ in range(20):
            code = (codes.code(350) + codes.code(350))[:800]
            size = len(code)
            code = tuple((op[0], min(op[1], size - k - 1)) if op[0] in ("jump", "unless") else op for k, op in enumerate(code))
            self.expect(code, reference(code))


class Fuse(unittest.TestCase):
    def test_it_shortens_one_behind_the_other(self):
        first, second = (p(5), S0), (p(2), p(4), ADD, S0)
        self.assertEqual(fuse(first, second), (p(6), S0))
        self.assertEqual(fuse(second, first), (p(5), S0))
        self.assertEqual(fuse((), ()), ())
        self.assertEqual(fuse((L0, S1), ()), (L0, S1))
        self.assertEqual(fuse((), (L0, S1)), (L0, S1))
        self.assertEqual(fuse((L0, NOT, S0), (L1, S0)), (L0, NOT, S0, L1, S0))
        self.assertIsInstance(fuse((), ()), tuple)

    def test_what_each_of_them_leaves_is_shortened(self):
        self.assertEqual(fuse((L0, S0), (J0,)), ())
        self.assertEqual(fuse((p(1), p(2), ADD, S1), ()), (p(3), S1))

    def test_skips_to_the_end_of_the_first(self):
        self.assertEqual(fuse((L1, u(2), p(1), S0), (p(2), S0)), (L1, u(2), p(1), S0, p(2), S0))
        self.assertEqual(fuse((L1, u(2), p(1), S0), (L0, S0)), (L1, u(2), p(1), S0))
        self.assertEqual(fuse((L1, u(4), p(1), S0, L0, S0), (p(2), S0)), (L1, u(2), p(1), S0, p(2), S0))

    def test_the_length_of_the_result(self):
        pairs = (L0, NOT, S1, NOT)
        self.assertEqual(len(fuse(pairs * 50, pairs * 50)), 400)
        self.assertEqual(len(fuse(pairs * 100, ())), 400)
        for first, second in ((pairs * 50, pairs * 50 + (NOT,)), (pairs * 100, (NOT,)), ((NOT,), pairs * 100), (pairs * 100, pairs * 100)):
            with self.assertRaises(BadCode) as caught:
                fuse(first, second)
            self.assertEqual((caught.exception.index, caught.exception.reason), (0, "long"))

    def test_codes_that_are_short_enough_when_shortened(self):
        self.assertEqual(fuse((p(1), S0) * 200, (p(2), S0) * 200), (p(2), S0))
        code = (L0, NOT, S1, NOT) * 99
        self.assertEqual(len(fuse(code + (p(1), S0), (p(2), S0, NOT, NOT))), 400)
        self.assertEqual(len(fuse(code + (L0, S0, L1, S1), (L0, NOT, S1, NOT))), 400)

    def test_the_arguments_stay(self):
        first, second = (p(5), j(2), L0, S0), (p(2), p(4), ADD, S0)
        kept = copy.deepcopy((first, second))
        fuse(first, second)
        self.assertEqual((first, second), kept)

    def test_fused_code_does_the_same(self):
        codes = CodeMaker(121)
        records = ProgramMaker(121)
        for _ in range(400):
            first = codes.code(codes.random.randint(0, 50))
            second = codes.code(codes.random.randint(0, 50))
            self.assertIsNone(judge(SCHEMA, first))
            self.assertIsNone(judge(SCHEMA, second))
            both = fuse(first, second)
            self.assertEqual(both, reference(first + second))
            self.assertIsNone(judge(SCHEMA, both))
            for _ in range(4):
                record = records.record()
                self.assertEqual(repr(run(both, record)), repr(run(second, run(first, record))), (first, second, record))

    def test_the_example_of_the_document(self):
        first = (("push", 5), ("store", 0))
        self.assertEqual(fuse(first, (("push", 2), ("push", 4), ("add",), ("store", 0))), (("push", 6), ("store", 0)))


if __name__ == "__main__":
    unittest.main()
