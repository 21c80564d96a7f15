"""Tests of keys and buffers: points 210, 212, 213 and 214."""

import copy
import itertools
import unittest

from sinktree.errors import BadCode
from sinktree.fusing import fuse
from sinktree.judge import judge
from sinktree.messages import apply, meet
from sinktree.nodes import (
    BUFFER_MOST, FAN_MOST, LEAF_LEAST, LEAF_MOST, add_message, apply_messages, child_index, count_messages, is_key,
    join_buffers,
)
from tests.makers import CodeMaker, ProgramMaker

SMALL = (("n", ("int", 0, 9)), ("on", ("flag",)))
RECORDS = ((0, False), (7, True), (9, False), None)
MORE = ("run", (("load", 0), ("push", 1), ("add",), ("push", 9), ("min",), ("store", 0)))
LESS = ("run", (("load", 0), ("push", 1), ("sub",), ("push", 0), ("max",), ("store", 0)))
TURN = ("run", (("load", 1), ("not",), ("store", 1)))
# With any further code that changes something, this is too long.
LONG = ("run", TURN[1] * 133)
PUT = ("put", (3, True))
DROP = ("drop",)


class Kept(unittest.TestCase):
    def kept(self, function, *arguments):
        """Call the function and make sure that its arguments stay."""
        before = copy.deepcopy(arguments)
        result = function(*arguments)
        self.assertEqual(repr(arguments), repr(before))
        return result


class Numbers(unittest.TestCase):
    def test_the_numbers(self):
        self.assertEqual((LEAF_MOST, LEAF_LEAST, FAN_MOST, BUFFER_MOST), (4, 2, 4, 6))


class IsKey(unittest.TestCase):
    def test_keys(self):
        for value in ("a", "z", "ann", "if", "true", "put", "abcdefghijkl", "zzzzzzzzzzzz", "zaz"):
            self.assertIs(is_key(value), True)

    def test_strings_that_are_none(self):
        self.assertIs(is_key(""), False)
        self.assertIs(is_key("abcdefghijklm"), False)
        self.assertIs(is_key("a" * 1000), False)
        for letter in [chr(code) for code in range(256)] + ["\u0430", "\uff41", "\u017f"]:
            right = letter in "abcdefghijklmnopqrstuvwxyz"
            for value in (letter, "a" + letter, letter + "a", "a" + letter + "z"):
                self.assertIs(is_key(value), right)

    def test_other_values(self):
        for value in (None, True, False, 0, 1, 1.5, b"a", b"", ("a",), (), ["a"], [], {"a": 1}, {}, {"a"}, object(), str):
            self.assertIs(is_key(value), False)


class ChildIndex(Kept):
    def test_no_keys(self):
        for key in ("a", "m", "zzzzzzzzzzzz"):
            self.assertEqual(self.kept(child_index, (), key), 0)

    def test_keys(self):
        keys = ("b", "dd", "f")
        for key, index in (
            ("a", 0), ("azzz", 0), ("b", 1), ("ba", 1), ("bz", 1), ("d", 1), ("dcz", 1), ("dd", 2), ("dda", 2),
            ("de", 2), ("e", 2), ("ezzz", 2), ("f", 3), ("fa", 3), ("z", 3),
        ):
            with self.subTest(key=key):
                self.assertEqual(self.kept(child_index, keys, key), index)

    def test_one_key(self):
        for key, index in (("l", 0), ("lzz", 0), ("m", 1), ("ma", 1), ("n", 1)):
            self.assertEqual(child_index(("m",), key), index)


class AddMessage(Kept):
    def expect(self, buffer, key, message, result):
        with self.subTest(buffer=buffer, key=key, message=message):
            self.assertEqual(repr(self.kept(add_message, buffer, key, message)), repr(result))

    def test_the_first_message(self):
        for message in (PUT, DROP, MORE, LONG):
            self.expect((), "ann", message, (("ann", (message,)),))

    def test_each_pair(self):
        other = ("put", (9, False))
        put_more = ("put", (4, True))
        both = ("run", MORE[1] + LESS[1])
        for first, second, result in (
            (PUT, other, other), (PUT, DROP, DROP), (PUT, MORE, put_more),
            (DROP, PUT, PUT), (DROP, DROP, DROP), (DROP, MORE, DROP),
            (MORE, PUT, PUT), (MORE, DROP, DROP), (MORE, LESS, both),
        ):
            self.expect((("ann", (first,)),), "ann", second, (("ann", (result,)),))

    def test_runs_that_are_too_long(self):
        self.expect((("ann", (LONG,)),), "ann", TURN, (("ann", (LONG, TURN)),))
        self.expect((("ann", (TURN,)),), "ann", LONG, (("ann", (TURN, LONG)),))
        self.expect((("ann", (LONG, TURN)),), "ann", LONG, (("ann", (LONG, TURN, LONG)),))
        self.expect((("ann", (LONG, LONG)),), "ann", MORE, (("ann", (LONG, LONG, MORE)),))

    def test_only_the_last_two_meet(self):
        both = ("run", TURN[1] + MORE[1])
        self.expect((("ann", (LONG, TURN)),), "ann", MORE, (("ann", (LONG, both)),))
        # The first two could meet, but they are not the last two.
        self.expect((("ann", (TURN, TURN, LONG)),), "ann", TURN, (("ann", (TURN, TURN, LONG, TURN)),))

    def test_put_and_drop_behind_runs(self):
        for message in (PUT, DROP):
            self.expect((("ann", (LONG, TURN)),), "ann", message, (("ann", (message,)),))
            self.expect((("ann", (LONG, LONG, LONG, TURN)),), "ann", message, (("ann", (message,)),))
        self.expect((("ann", (PUT,)),), "ann", LONG, (("ann", (("put", (3, False)),)),))
        self.expect((("ann", (DROP,)),), "ann", LONG, (("ann", (DROP,)),))

    def test_the_last_two_meet_and_then_the_first(self):
        three = ("run", MORE[1] + LESS[1] + TURN[1])
        self.expect((("ann", (MORE, LESS)),), "ann", TURN, (("ann", (three,)),))
        self.expect((("ann", (PUT, MORE)),), "ann", LESS, (("ann", (PUT,)),))
        self.expect((("ann", (DROP, MORE)),), "ann", LESS, (("ann", (DROP,)),))
        self.expect((("ann", (LONG, MORE, LESS)),), "ann", TURN, (("ann", (LONG, three)),))
        four = ("run", MORE[1] + MORE[1] + LESS[1] + TURN[1])
        self.expect((("ann", (MORE, MORE, LESS)),), "ann", TURN, (("ann", (four,)),))
        # Behind the last two, the next two are asked in their order: these do not meet.
        self.expect((("ann", (MORE, LONG, LESS)),), "ann", TURN, (("ann", (MORE, LONG, ("run", LESS[1] + TURN[1]))),))

    def test_a_shorter_code_meets(self):
        five = ("run", (("push", 5), ("store", 0)))
        six = ("run", (("push", 6), ("store", 0)))
        long = ("run", TURN[1] * 132)
        met = ("run", TURN[1] * 132 + six[1])
        self.expect((("ann", (long, five)),), "ann", six, (("ann", (met,)),))

    def test_where_a_new_key_stands(self):
        buffer = (("bob", (PUT,)), ("eve", (LONG, TURN)), ("max", (DROP,)))
        for key, index in (("ann", 0), ("b", 0), ("boa", 0), ("bobo", 1), ("carl", 1), ("ev", 1), ("evea", 2), ("mas", 2),
                           ("maxa", 3), ("zoe", 3)):
            self.expect(buffer, key, MORE, buffer[:index] + ((key, (MORE,)),) + buffer[index:])

    def test_where_a_known_key_stands(self):
        buffer = (("bob", (PUT,)), ("eve", (LONG, TURN)), ("max", (DROP,)))
        for index, (key, messages) in enumerate(buffer):
            self.expect(buffer, key, LONG, buffer[:index] + ((key, {
                "bob": (("put", (3, False)),), "eve": (LONG, TURN, LONG), "max": (DROP,),
            }[key]),) + buffer[index + 1:])


def added(older, newer):
    """Join two buffers as point 213 says, with nothing but dicts and the loop over meet."""
    table = {key: list(messages) for key, messages in older}
    for key, messages in newer:
        for message in messages:
            waiting = table.setdefault(key, [])
            waiting.append(message)
            while len(waiting) > 1 and meet(waiting[-2], waiting[-1]) is not None:
                waiting[-2:] = [meet(waiting[-2], waiting[-1])]
    return tuple((key, tuple(table[key])) for key in sorted(table))


class JoinBuffers(Kept):
    def expect(self, older, newer, result):
        with self.subTest(older=older, newer=newer):
            self.assertEqual(repr(self.kept(join_buffers, older, newer)), repr(result))

    def test_empty_buffers(self):
        buffer = (("ann", (PUT,)), ("bob", (LONG, TURN)))
        self.expect((), (), ())
        self.expect(buffer, (), buffer)
        self.expect((), buffer, buffer)

    def test_no_keys_in_common(self):
        older = (("bob", (PUT,)), ("eve", (LONG, TURN)))
        newer = (("ann", (DROP,)), ("carl", (TURN, LONG)), ("zoe", (MORE,)))
        result = (newer[0], older[0], newer[1], older[1], newer[2])
        self.expect(older, newer, result)
        self.expect(newer, older, result)

    def test_keys_in_common(self):
        older = (("ann", (PUT,)), ("bob", (LONG,)), ("carl", (LONG, TURN)), ("dora", (MORE,)))
        newer = (("ann", (MORE,)), ("bob", (TURN, LONG)), ("carl", (MORE, DROP)), ("eve", (LESS,)))
        self.expect(older, newer, (
            ("ann", (("put", (4, True)),)), ("bob", (LONG, TURN, LONG)), ("carl", (DROP,)), ("dora", (MORE,)),
            ("eve", (LESS,)),
        ))
        self.expect(newer, older, (
            ("ann", (PUT,)), ("bob", (TURN, LONG, LONG)), ("carl", (DROP,)), ("dora", (MORE,)), ("eve", (LESS,)),
        ))

    def test_messages_in_their_order(self):
        first, second = ("put", (1, True)), ("put", (2, True))
        self.expect((("ann", (first,)),), (("ann", (second,)),), (("ann", (second,)),))
        self.expect((("ann", (second,)),), (("ann", (first,)),), (("ann", (first,)),))
        self.expect((("ann", (PUT,)),), (("ann", (MORE, LONG, LESS)),), (("ann", (("put", (3, False)),)),))
        # Messages of one buffer that were not combined are, once they are added one by one.
        self.expect((), (("ann", (MORE, LESS)),), (("ann", (("run", MORE[1] + LESS[1]),)),))
        self.expect((("ann", (MORE, LESS)),), (), (("ann", (MORE, LESS)),))
        self.expect((("ann", (MORE, LESS)),), (("bob", (PUT,)),), (("ann", (MORE, LESS)), ("bob", (PUT,))))

    def test_all_short_rows(self):
        rows = [row for many in range(1, 4) for row in itertools.product((PUT, DROP, TURN, LONG), repeat=many)]
        for older in rows[:84]:
            for newer in rows[:20]:
                self.expect((("ann", older),), (("ann", newer),), added((("ann", older),), (("ann", newer),)))

    def test_the_records_stay_the_same(self):
        for older, newer in itertools.product(itertools.product((PUT, DROP, MORE, TURN, LONG), repeat=2), repeat=2):
            ((_, messages),) = join_buffers((("ann", older),), (("ann", newer),))
            for record in RECORDS:
                self.assertEqual(
                    repr(apply_messages(messages, record)),
                    repr(apply_messages(newer, apply_messages(older, record))),
                )


class CountMessages(Kept):
    def test_buffers(self):
        for buffer, many in (
            ((), 0),
            ((("ann", (PUT,)),), 1),
            ((("ann", (LONG, TURN)),), 2),
            ((("ann", (LONG, TURN)), ("bob", (DROP,)), ("eve", (LONG, LONG, LONG))), 6),
        ):
            self.assertEqual(self.kept(count_messages, buffer), many)


class ApplyMessages(Kept):
    def expect(self, messages, record, result):
        with self.subTest(messages=messages, record=record):
            self.assertEqual(repr(self.kept(apply_messages, messages, record)), repr(result))

    def test_no_message(self):
        for record in RECORDS:
            self.expect((), record, record)

    def test_one_message(self):
        for message in (PUT, DROP, MORE, LESS, TURN, LONG):
            for record in RECORDS:
                self.expect((message,), record, apply(message, record))

    def test_several_messages(self):
        self.expect((MORE, MORE), (0, False), (2, False))
        self.expect((MORE, LESS), (9, False), (8, False))
        self.expect((LESS, MORE), (9, False), (9, False))
        self.expect((LESS, MORE, TURN, LONG), (0, False), (1, False))
        self.expect((PUT, MORE), None, (4, True))
        self.expect((MORE, PUT), None, (3, True))
        self.expect((MORE, MORE), None, None)
        self.expect((PUT, DROP), (1, True), None)
        self.expect((DROP, PUT), (1, True), (3, True))
        self.expect((DROP, MORE), (1, True), None)
        self.expect((PUT, DROP, MORE, PUT, TURN), None, (3, False))

    def test_messages_at_random(self):
        codes, records = CodeMaker(214), ProgramMaker(214)
        for _ in range(100):
            messages = []
            for _ in range(codes.random.randint(0, 5)):
                what = codes.random.random()
                put = ("put", records.record())
                messages.append(put if what < 0.2 else DROP if what < 0.3 else ("run", codes.code(10)))
            for record in (None, records.record()):
                result = record
                for message in messages:
                    result = apply(message, result)
                self.expect(tuple(messages), record, result)


class Codes(unittest.TestCase):
    def test_the_codes_of_these_tests(self):
        for _, code in (MORE, LESS, TURN, LONG):
            self.assertIsNone(judge(SMALL, code))
        for first, second in ((LONG, TURN), (TURN, LONG), (LONG, MORE), (LONG, LONG)):
            with self.assertRaises(BadCode):
                fuse(first[1], second[1])


if __name__ == "__main__":
    unittest.main()
