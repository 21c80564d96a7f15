"""Tests of plain values and their texts: points 200, 201 and 202."""

import copy
import itertools
import random
import unittest

from sinktree.errors import BadText
from sinktree.texts import decode, encode

PERCENT = chr(37)
BIG = 10 ** 20 - 1
PRINTABLE = "".join([chr(code) for code in range(32, 127) if code != 37])
# Each value with its text.
ROWS = (
    (None, "n"),
    (True, "y"),
    (False, "z"),
    (0, "i0;"),
    (1, "i1;"),
    (-1, "i-1;"),
    (10, "i10;"),
    (-12, "i-12;"),
    (BIG, "i99999999999999999999;"),
    (-BIG, "i-99999999999999999999;"),
    (10 ** 19, "i10000000000000000000;"),
    ("", "s0:"),
    ("a", "s1:a"),
    (" ", "s1: "),
    ("~", "s1:~"),
    ("0", "s1:0"),
    ("s1:a", "s4:s1:a"),
    ("t2:nn;i-0;:", "s11:t2:nn;i-0;:"),
    ("0123456789", "s10:0123456789"),
    (PRINTABLE, "s94:" + PRINTABLE),
    ("x" * 1000, "s1000:" + "x" * 1000),
    ((), "t0:"),
    ((None,), "t1:n"),
    ((0, False, 1, True), "t4:i0;zi1;y"),
    ((False, 0, True, 1), "t4:zi0;yi1;"),
    (((), ("",), ((),)), "t3:t0:t1:s0:t1:t0:"),
    ((-12, "a;", None, (True,)), "t4:i-12;s2:a;nt1:y"),
    (("leaf", (("ann", (7, "x")),)), "t2:s4:leaft1:t2:s3:annt2:i7;s1:x"),
    ((None,) * 10, "t10:" + "n" * 10),
    ((0,) * 100, "t100:" + "i0;" * 100),
)


def nested(many, core):
    """Put a value into so many tuples."""
    for _ in range(many):
        core = (core,)
    return core


def index_of(function, value):
    """Return the index of the BadText that the function raises, or None if it raises none."""
    try:
        function(value)
    except BadText as error:
        return error.index
    return None


class Maker:
    """Makes plain values at random."""

    def __init__(self, seed):
        self.random = random.Random(seed)

    def value(self, depth):
        pick = self.random.random()
        if depth and pick < 0.4:
            return tuple([self.value(depth - 1) for _ in range(self.random.randint(0, 4))])
        if pick < 0.6:
            return self.random.choice((0, 1, -1, 5, -40, 10 ** 9, BIG, -BIG, self.random.randint(-999, 999)))
        if pick < 0.8:
            return "".join(self.random.choice(PRINTABLE) for _ in range(self.random.choice((0, 1, 2, 3, 11))))
        return self.random.choice((None, True, False))


class Encode(unittest.TestCase):
    def refuse(self, value):
        # Not every value that is refused can be shown: Python itself fails for some.
        self.assertEqual(index_of(encode, value), 0)

    def test_rows(self):
        for value, text in ROWS:
            with self.subTest(text=text):
                self.assertEqual(encode(value), text)

    def test_integers(self):
        for value in (BIG + 1, -BIG - 1, 10 ** 21, -10 ** 21, 10 ** 5000, -10 ** 5000):
            self.refuse(value)
            self.refuse((1, value))

    def test_strings(self):
        for code in list(range(32)) + [37, 127, 128, 233, 0x661, 0x4e00, 0x1f600]:
            self.refuse(chr(code))
            self.refuse("ab" + chr(code))
            self.refuse(chr(code) + "ab")
            self.refuse(("ab", "c" + chr(code)))
        for code in (32, 33, 36, 38, 126):
            self.assertEqual(encode(chr(code)), "s1:" + chr(code))

    def test_other_values(self):
        for core in ([], [1], 1.0, 0.5, b"", b"a", {}, {"a": 1}, set(), frozenset(), object(), int, len, 1j, range(3)):
            for value in (core, (core,), (1, ("a", core), 2)):
                with self.subTest(value=value):
                    self.refuse(value)

    def test_depth(self):
        for core, depth in ((None, 0), (5, 0), ("a", 0), (True, 0), ((), 1), ((1, 2), 1), (("a", ()), 2)):
            self.assertEqual(encode(nested(12 - depth, core)), "t1:" * (12 - depth) + encode(core))
            self.refuse(nested(13 - depth, core))
            self.refuse(("a", nested(12 - depth, core), "b"))
        self.refuse(nested(12, ()))
        self.refuse(nested(13, None))
        self.refuse(nested(100000, ()))
        wide = ()
        for _ in range(200):
            wide = (wide, wide)
        self.refuse(wide)

    def test_the_value_stays(self):
        value = (1, ("a", (None, True)))
        kept = copy.deepcopy(value)
        encode(value)
        self.assertEqual(repr(value), repr(kept))


class Decode(unittest.TestCase):
    def refuse(self, text):
        with self.subTest(text=repr(text)[:80]):
            self.assertEqual(index_of(decode, text), 0)

    def test_rows(self):
        for value, text in ROWS:
            with self.subTest(text=text):
                self.assertEqual(repr(decode(text)), repr(value))

    def test_integers_and_flags_stay_apart(self):
        for value, kind in ((0, int), (False, bool), (1, int), (True, bool)):
            self.assertIs(type(decode(encode(value))), kind)
            self.assertIs(type(decode(encode((value,)))[0]), kind)
        self.assertEqual(len({encode(value) for value in (0, 1)} | {encode(value) for value in (False, True)}), 4)

    def test_integers(self):
        for text in ("i-0;", "i00;", "i01;", "i;", "i-;", "i+1;", "i--1;", "i-01;", "i1", "i-1", "i", "i 1;", "i1 ;",
                     "i1:", "i1_0;", "i0x1;", "i1.0;", "i1-;", "1;", "-1;", "I1;", "i1;;", "i;1", "i00000000000000000001;"):
            self.refuse(text)
        for digits in ("1" + "0" * 20, "9" * 21, "1" * 5000):
            self.refuse(f"i{digits};")
            self.refuse(f"i-{digits};")
            self.refuse(f"t1:i{digits};")
        self.assertEqual(decode("i" + "9" * 20 + ";"), BIG)
        self.assertEqual(decode("i-" + "9" * 20 + ";"), -BIG)

    def test_digits_that_are_not_ascii(self):
        for digit in (chr(0x661), chr(0xb2), chr(0xff11), chr(0x967)):
            self.refuse(f"i{digit};")
            self.refuse(f"i1{digit};")
            self.refuse(f"i-{digit};")
            self.refuse(f"s{digit}:a")
            self.refuse(f"s1{digit}:" + "a" * 11)
            self.refuse(f"t{digit}:n")

    def test_strings(self):
        for text in ("s", "s:", "s:a", "s1", "s1:", "s01:a", "s00:", "s-0:", "s-1:a", "s+1:a", "s2:a", "s0:a", "s1:ab",
                     "s3:ab", "s1;a", "s 1:a", "s1 :a", "s1::a", "s9:a", "s99999999:a", "S1:a", "sa:a",
                     "s" + "9" * 5000 + ":a", "s" + "0" * 5000 + ":"):
            self.refuse(text)
            self.refuse("t1:" + text)
        for code in list(range(32)) + [37, 127, 128, 233, 0x4e00]:
            self.refuse("s1:" + chr(code))
            self.refuse("s3:a" + chr(code) + "b")

    def test_tuples(self):
        for text in ("t", "t:", "t0", "t1:", "t01:n", "t00:", "t-1:n", "t-0:", "t+1:n", "t2:n", "t1:nn", "t0:n", "t3:nn",
                     "t1;n", "t 1:n", "t1:t1:", "t1:t0:n", "t2:t1:n", "t2:t2:nn", "t99999999:n", "T0:", "t1: n",
                     "t1:n ", "t" + "9" * 5000 + ":n", "t9" + "9" * 30 + ":" + "n" * 100):
            self.refuse(text)

    def test_a_text_behind_the_value(self):
        for _, text in ROWS:
            for tail in ("n", " ", ";", ":", "0", "\n", text):
                self.refuse(text + tail)
            self.refuse(" " + text)
            self.refuse("\n" + text)

    def test_a_text_that_ends_too_early(self):
        for _, text in ROWS:
            for end in range(len(text)):
                self.refuse(text[:end])

    def test_other_texts(self):
        for text in ("", " ", "\n", PERCENT, "a", "N", "Y", "0", ":", ";", "-", "nn", "None", "yes", "ny", chr(233)):
            self.refuse(text)

    def test_depth(self):
        self.assertEqual(decode("t1:" * 12 + "n"), nested(12, None))
        self.assertEqual(decode("t1:" * 12 + "i5;"), nested(12, 5))
        self.assertEqual(decode("t1:" * 11 + "t0:"), nested(11, ()))
        self.assertEqual(decode("t2:n" * 12 + "n"), eval("(None, " * 12 + "None" + ")" * 12))
        for text in ("t1:" * 13 + "n", "t1:" * 12 + "t0:", "t1:" * 13 + "i5;", "t2:n" * 13 + "n", "t1:" * 100000 + "n",
                     "t1:" * 100000, "t1:" * 13):
            self.refuse(text)

    def test_values_that_are_no_strings(self):
        for value in (None, True, 0, 5, 1.5, b"n", b"", (), ("n",), [], ["n"], {}, {"n": 1}, set(), object(), str, len):
            self.refuse(value)


class Promise(unittest.TestCase):
    def test_each_short_text(self):
        values = [None, True, False] + list(range(-99, 1000)) + [""]
        values += ["".join(letters) for size in (1, 2) for letters in itertools.product("nyzist012:;-", repeat=size)]
        values += [(), (None,), (True,), (False,), ((),), ("",), (None, True), (0,)]
        texts = {encode(value): value for value in values}
        self.assertEqual(len(texts), len(values))
        for size in range(6):
            for letters in itertools.product("nyist012:;-", repeat=size):
                text = "".join(letters)
                if text in texts:
                    self.assertEqual(repr(decode(text)), repr(texts[text]))
                else:
                    try:
                        value = decode(text)
                    except BadText as error:
                        self.assertEqual(error.index, 0)
                    else:
                        self.assertEqual(encode(value), text)

    def test_values_at_random(self):
        maker = Maker(201)
        for _ in range(2000):
            value = maker.value(6)
            self.assertEqual(repr(decode(encode(value))), repr(value))

    def test_changed_texts(self):
        maker = Maker(202)
        accepted = 0
        for _ in range(4000):
            text = encode(maker.value(4))
            place = maker.random.randrange(len(text) + 1)
            many = maker.random.randint(0, 2)
            changed = text[:place] + maker.random.choice(("", "0", "1", "n", ":", ";", "-", "t", PERCENT)) + text[place + many:]
            try:
                value = decode(changed)
            except BadText as error:
                self.assertEqual(error.index, 0)
            else:
                accepted += 1
                self.assertEqual(encode(value), changed)
        self.assertGreater(accepted, 100)


if __name__ == "__main__":
    unittest.main()
