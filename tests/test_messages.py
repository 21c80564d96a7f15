"""Tests of messages: points 122, 123 and 124."""

import copy
import itertools
import unittest

from sinktree.judge import judge
from sinktree.machine import run
from sinktree.messages import apply, meet
from sinktree.schemas import is_record
from tests.makers import SCHEMA, CodeMaker, ProgramMaker

SMALL = (("n", ("int", 0, 9)), ("on", ("flag",)))
RECORDS = ((0, False), (7, True), (9, False), None)
MORE = (("load", 0), ("push", 1), ("add",), ("push", 9), ("min",), ("store", 0))
LESS = (("load", 0), ("push", 1), ("sub",), ("push", 0), ("max",), ("store", 0))
TURN = (("load", 1), ("not",), ("store", 1))
NOTHING = ()
MESSAGES = (
    ("put", (3, True)), ("put", (9, False)), ("drop",), ("run", MORE), ("run", LESS), ("run", TURN), ("run", NOTHING),
)
LONG = TURN * 133
PUT = ("put", (3, True))


class Apply(unittest.TestCase):
    def expect(self, message, record, result):
        with self.subTest(message=message, record=record):
            self.assertEqual(repr(apply(message, record)), repr(result))

    def test_put(self):
        for record in RECORDS:
            self.expect(PUT, record, (3, True))

    def test_drop(self):
        for record in RECORDS:
            self.expect(("drop",), record, None)

    def test_run(self):
        self.expect(("run", MORE), (0, False), (1, False))
        self.expect(("run", MORE), (9, False), (9, False))
        self.expect(("run", LESS), (7, True), (6, True))
        self.expect(("run", TURN), (7, True), (7, False))
        self.expect(("run", NOTHING), (7, True), (7, True))

    def test_run_without_a_record(self):
        for code in (MORE, LESS, TURN, NOTHING):
            self.expect(("run", code), None, None)


class Meet(unittest.TestCase):
    def expect(self, first, second, result):
        with self.subTest(first=first, second=second):
            self.assertEqual(repr(meet(first, second)), repr(result))

    def test_the_second_is_a_put_or_a_drop(self):
        for first in MESSAGES:
            for second in MESSAGES[:3]:
                self.expect(first, second, second)

    def test_a_put_and_a_run(self):
        self.expect(PUT, ("run", MORE), ("put", (4, True)))
        self.expect(("put", (9, False)), ("run", MORE), ("put", (9, False)))
        self.expect(PUT, ("run", TURN), ("put", (3, False)))
        self.expect(PUT, ("run", NOTHING), PUT)
        self.expect(PUT, ("run", LONG), ("put", (3, False)))

    def test_a_drop_and_a_run(self):
        for code in (MORE, LESS, TURN, NOTHING, LONG):
            self.expect(("drop",), ("run", code), ("drop",))

    def test_two_runs(self):
        self.expect(("run", MORE), ("run", LESS), ("run", MORE + LESS))
        self.expect(("run", LESS), ("run", MORE), ("run", LESS + MORE))
        self.expect(("run", NOTHING), ("run", TURN), ("run", TURN))
        self.expect(("run", TURN), ("run", NOTHING), ("run", TURN))
        self.expect(("run", NOTHING), ("run", NOTHING), ("run", NOTHING))
        five = ("run", (("push", 5), ("store", 0)))
        six = ("run", (("push", 2), ("push", 4), ("add",), ("store", 0)))
        self.expect(five, six, ("run", (("push", 6), ("store", 0))))

    def test_two_runs_that_are_too_long(self):
        self.assertEqual(len(LONG), 399)
        self.expect(("run", LONG), ("run", TURN), None)
        self.expect(("run", TURN), ("run", LONG), None)
        self.expect(("run", LONG), ("run", LONG), None)
        self.expect(("run", LONG), ("run", NOTHING), ("run", LONG))
        self.expect(("run", LONG), ("drop",), ("drop",))
        self.expect(("run", LONG), PUT, PUT)
        # Shortened, these two are not too long.
        shorter = TURN * 132 + (("push", 5), ("store", 0))
        self.expect(("run", shorter), ("run", (("push", 6), ("store", 0))), ("run", TURN * 132 + (("push", 6), ("store", 0))))
        self.expect(("run", TURN * 132 + (("jump", 0),) * 4), ("run", TURN), ("run", LONG))

    def test_the_arguments_stay(self):
        for first, second in itertools.product(MESSAGES + (("run", LONG),), repeat=2):
            kept = copy.deepcopy((first, second))
            met = meet(first, second)
            self.assertEqual((first, second), kept)
            kept = copy.deepcopy((first, met))
            for record in RECORDS:
                saved = copy.deepcopy(record)
                apply(first, record)
                self.assertEqual(record, saved)
            self.assertEqual((first, met), kept)


class Promise(unittest.TestCase):
    def test_each_pair_of_messages(self):
        for first, second in itertools.product(MESSAGES, repeat=2):
            met = meet(first, second)
            self.assertIsNotNone(met)
            for record in RECORDS:
                with self.subTest(first=first, second=second, record=record):
                    self.assertEqual(repr(apply(met, record)), repr(apply(second, apply(first, record))))

    def test_messages_at_random(self):
        codes = CodeMaker(124)
        records = ProgramMaker(124)

        def message():
            what = codes.random.random()
            if what < 0.2:
                return ("put", records.record())
            return ("drop",) if what < 0.3 else ("run", codes.code(codes.random.choice((0, 3, 20, 150))))

        lone = 0
        for _ in range(500):
            first, second = message(), message()
            met = meet(first, second)
            if met is None:
                lone += 1
                self.assertEqual((first[0], second[0]), ("run", "run"))
                continue
            if met[0] == "run":
                self.assertIsNone(judge(SCHEMA, met[1]))
            elif met[0] == "put":
                self.assertTrue(is_record(SCHEMA, met[1]))
            for record in (None, records.record(), records.record(), records.record()):
                self.assertEqual(repr(apply(met, record)), repr(apply(second, apply(first, record))))
        self.assertGreater(lone, 5)

    def test_messages_behind_each_other(self):
        for three in itertools.product(MESSAGES, repeat=3):
            met = meet(meet(three[0], three[1]), three[2])
            for record in RECORDS:
                result = record
                for message in three:
                    result = apply(message, result)
                self.assertEqual(apply(met, record), result)

    def test_the_codes_of_these_tests_are_accepted(self):
        for code in (MORE, LESS, TURN, NOTHING, LONG):
            self.assertIsNone(judge(SMALL, code))
            self.assertTrue(is_record(SMALL, run(code, (7, True))))


if __name__ == "__main__":
    unittest.main()
