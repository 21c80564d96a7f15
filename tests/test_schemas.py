"""Tests of points 3, 100, 101 and 102."""

import copy
import unittest

from sinktree.errors import BadSchema
from sinktree.schemas import LIMIT, check_schema, default_record, field_index, is_record

BIG = 10 ** 9
PERCENT = chr(37)
RESERVED = (
    "if", "else", "skip", "true", "false", "and", "or", "not", "min", "max", "mod", "pick", "cut", "join",
)
WORDS = ("one", "two", "three", "four", "five", "six", "seven", "eight", "nine")
SCHEMA = (
    ("n", ("int", -3, 9)),
    ("on", ("flag",)),
    ("state", ("word", ("new", "old"))),
    ("note", ("text", 5)),
)
RECORD = (4, True, "old", "a b")
# Values of every kind, and some that are no values of the program at all.
ANYTHING = (
    None, True, False, 0, 1, -1, 1.0, 10 ** 30, "", "n", "int", b"n", (), [], {}, set(), (None,), ((),), [()],
    {"n": 1}, object(), int, len, float("nan"), range(3), 1j,
)


class Equal:
    """An object that is equal to everything, and still is no value of a record."""

    def __eq__(self, other):
        return True

    __hash__ = None


class Cases(unittest.TestCase):
    def accept(self, schema):
        with self.subTest(schema=schema):
            self.assertIs(check_schema(schema), schema)

    def reject(self, schema):
        with self.subTest(schema=schema):
            with self.assertRaises(BadSchema):
                check_schema(schema)

    def accept_kind(self, kind):
        self.accept((("n", kind),))

    def reject_kind(self, kind):
        self.reject((("n", kind),))
        self.reject((("a", ("flag",)), ("n", kind)))


class FieldTest(Cases):
    """Point 100."""

    def test_names(self):
        for letters in ("a", "z", "az", "name", "abcdefghijkl", "mnopqrstuvwx", "words"):
            self.accept(((letters, ("flag",)),))

    def test_names_of_a_wrong_length(self):
        for letters in ("", "abcdefghijklm", "a" * 1000):
            self.reject(((letters, ("flag",)),))

    def test_names_with_other_characters(self):
        for letter in "A", "Z", "0", "9", "_", "-", " ", "'", "`", "{", "\n", "\x00", "\xe4", "\u0430", PERCENT:
            for letters in (letter, "a" + letter, letter + "a", "a" + letter + "a"):
                self.reject(((letters, ("flag",)),))

    def test_names_that_are_no_strings(self):
        for value in (None, True, 0, 5, b"n", ("n",), ["n"], (), {}):
            self.reject(((value, ("flag",)),))

    def test_fields_of_another_form(self):
        for field in (
            (), ("n",), ("n", ("flag",), 1), ("n", ("flag",), ("flag",)), ["n", ("flag",)],
            (("flag",), "n"), "ab", "n", {"n": ("flag",)},
        ) + ANYTHING:
            self.reject((field,))
            self.reject((field, ("b", ("flag",))))
            self.reject((("b", ("flag",)), field))

    def test_integers(self):
        for low, high in ((3, 9), (0, 1), (-9, -3), (5, 5), (0, 0), (-1, -1), (0, 9), (-9, 0)):
            self.accept_kind(("int", low, high))

    def test_an_integer_with_low_above_high(self):
        for low, high in ((3, 2), (0, -1), (BIG, -BIG), (9, 3), (-3, -9)):
            self.reject_kind(("int", low, high))

    def test_the_ends_of_an_integer(self):
        self.accept_kind(("int", -BIG, BIG))
        self.accept_kind(("int", BIG, BIG))
        self.accept_kind(("int", -BIG, -BIG))
        for low, high in (
            (-BIG - 1, BIG), (-BIG, BIG + 1), (0, BIG + 1), (-BIG - 1, 0), (BIG + 1, BIG + 1),
            (-BIG - 1, -BIG - 1), (-BIG - 1, BIG + 1),
        ):
            self.reject_kind(("int", low, high))

    def test_ends_that_are_no_integers(self):
        for value in (True, False, None, 1.0, "1", (), [], object()):
            self.reject_kind(("int", value, 5))
            self.reject_kind(("int", 0, value))
            self.reject_kind(("int", value, value))
        self.reject_kind(("int", False, True))

    def test_words(self):
        for words in (("one",), ("new", "old"), WORDS[:7], WORDS[:8], ("a", "z"), ("abcdefghijkl",), ("b", "a")):
            self.accept_kind(("word", words))

    def test_a_wrong_number_of_words(self):
        self.reject_kind(("word", ()))
        self.reject_kind(("word", WORDS))
        self.reject_kind(("word", WORDS + ("ten",)))

    def test_a_word_twice(self):
        self.reject_kind(("word", ("new", "new")))
        self.reject_kind(("word", ("new", "old", "new")))
        self.reject_kind(("word", WORDS[:7] + ("one",)))

    def test_words_of_a_wrong_form(self):
        for word in (
            "", "abcdefghijklm", "New", "neW", "n w", "n1", "n-w", "n_w", "'new", "n\n", "\xe4", PERCENT,
            None, True, 5, b"new", ("new",), ["new"],
        ):
            self.reject_kind(("word", (word,)))
            self.reject_kind(("word", ("old", word)))
            self.reject_kind(("word", (word, "old")))

    def test_words_that_are_no_tuple(self):
        for words in (["new", "old"], "new", "n", {"new": 1}, {"new"}, None, 1, True):
            self.reject_kind(("word", words))

    def test_texts(self):
        for most in (0, 1, 5, 39, 40):
            self.accept_kind(("text", most))
        for most in (-1, 41, 1000, True, False, None, "5", 5.0, (5,)):
            self.reject_kind(("text", most))

    def test_unknown_kinds(self):
        for kind in (
            ("bool",), ("number", 1, 2), ("Int", 1, 2), ("string", 5), ("", 5), ("INT", 1, 2), ("words", ("a",)),
            ("flags",), ("skip",), (None, 1, 2), (True,), (1, 2, 3), (b"flag",), (("flag",),), (["flag"],), ({},),
        ):
            self.reject_kind(kind)

    def test_kinds_of_a_wrong_length(self):
        for kind in (
            ("int",), ("int", 1), ("int", 1, 2, 3), ("int", 1, 2, None), ("flag", True), ("flag", ()), ("flag", "flag"),
            ("word",), ("word", ("a",), ("b",)), ("word", "a", "b"), ("text",), ("text", 1, 2), ("text", 5, None),
        ):
            self.reject_kind(kind)

    def test_kinds_that_are_no_tuple(self):
        for kind in (["int", 1, 2], ["flag"], ["word", ("a",)], ["text", 5], "flag", "int", "text") + ANYTHING:
            self.reject_kind(kind)


class SchemaTest(Cases):
    """Point 101."""

    def fields(self, many):
        return tuple([(word, ("flag",)) for word in WORDS[:many]])

    def test_the_number_of_fields(self):
        for many in range(1, 9):
            self.accept(self.fields(many))
        self.reject(())
        self.reject(self.fields(9))
        self.reject(self.fields(9) + (("ten", ("flag",)),))

    def test_all_kinds_together(self):
        self.accept(SCHEMA)

    def test_the_value_itself_is_returned(self):
        schema = tuple(list(SCHEMA))
        self.assertIs(check_schema(schema), schema)

    def test_names_are_different(self):
        self.reject((("n", ("flag",)), ("n", ("flag",))))
        self.reject((("n", ("flag",)), ("n", ("int", 1, 2))))
        self.reject((("n", ("flag",)), ("m", ("flag",)), ("n", ("text", 5))))
        self.reject(self.fields(7) + (("one", ("flag",)),))
        self.accept((("n", ("flag",)), ("nn", ("flag",))))

    def test_a_list_is_no_schema(self):
        self.reject(list(SCHEMA))
        self.reject([("n", ("flag",))])
        self.reject(["n", ("flag",)])

    def test_a_field_is_no_schema(self):
        self.reject(("n", ("flag",)))

    def test_reserved_names_are_no_names_of_fields(self):
        self.assertEqual(len(set(RESERVED)), 14)
        for name in RESERVED:
            self.reject(((name, ("flag",)),))
            self.reject((("n", ("int", 0, 1)), (name, ("text", 3))))

    def test_reserved_names_are_words(self):
        for name in RESERVED:
            self.accept_kind(("word", (name,)))
        self.accept_kind(("word", RESERVED[:8]))
        self.accept_kind(("word", RESERVED[6:]))

    def test_names_like_the_reserved_ones(self):
        for name in ("iff", "i", "int", "flag", "word", "text", "set", "add", "sub", "mul", "div", "less", "same",
                     "field", "none", "minus", "an", "tru"):
            self.accept(((name, ("flag",)),))

    def test_values_of_any_other_kind(self):
        for value in ANYTHING + ("schema", "n", 5, -5, None, iter(SCHEMA), dict(SCHEMA)):
            self.reject(value)


class RecordTest(unittest.TestCase):
    """Point 102, the first half."""

    def check(self, kind, right, wrong):
        schema = (("n", kind),)
        longer = (("a", ("flag",)), ("n", kind))
        for value in right:
            with self.subTest(kind=kind, value=value):
                self.assertIs(is_record(schema, (value,)), True)
                self.assertIs(is_record(longer, (True, value)), True)
        for value in wrong:
            with self.subTest(kind=kind, value=value):
                self.assertIs(is_record(schema, (value,)), False)
                self.assertIs(is_record(longer, (True, value)), False)

    def test_integers(self):
        others = ("", "n", "4", None, (), [], (4,), 4.0, b"4", object())
        self.check(("int", -3, 9), (-3, -2, 0, 1, 8, 9), (-4, 10, -BIG, 10 ** 30) + others)
        self.check(("int", 3, 9), (3, 9), (2, 10, 0, -3, True, False) + others)
        self.check(("int", -9, -3), (-9, -3), (-10, -2, 0) + others)
        self.check(("int", 5, 5), (5,), (4, 6, True))
        self.check(("int", -BIG, BIG), (-BIG, BIG), (-BIG - 1, BIG + 1))

    def test_true_and_false_are_no_integers(self):
        self.check(("int", 0, 1), (0, 1), (True, False, -1, 2))

    def test_flags(self):
        self.check(("flag",), (True, False), (0, 1, -1, 1.0, 0.0, None, "", "true", "false", (), (True,), [], object()))

    def test_words(self):
        self.check(
            ("word", ("new", "old")), ("new", "old"),
            ("", "ne", "newer", "New", "new ", "newold", 0, 1, True, False, None, ("new",), ("new", "old"), ["new"],
             b"new", object(), {}, Equal()),
        )
        self.check(("word", ("if", "true")), ("if", "true"), ("else", True, ""))

    def test_texts(self):
        self.check(
            ("text", 5), ("", "a", "abcd", "abcde", "new", "true", "     ", "\"\\'~ ", "A-Z9!"),
            ("abcdef", "      ", 0, 1, True, False, None, (), ("a",), ["a"], b"a", object()),
        )
        self.check(("text", 0), ("",), ("a", " ", None, 0, False))
        self.check(("text", 40), ("a" * 39, "a" * 40), ("a" * 41, "a" * 1000))

    def test_printable_characters(self):
        printable = [chr(code) for code in range(32, 127) if code != 37]
        others = [chr(code) for code in list(range(32)) + [37] + list(range(127, 300)) + [8364, 0x10FFFF, 0xD800]]
        self.check(("text", 5), tuple(printable), tuple(others))
        self.check(
            ("text", 5), ("a~b", "~~~~~", "a b"),
            ("a" + PERCENT, PERCENT + "b", "a\x7fb", "a\n", "\nb", "a\tb", "\xe4b", "b\xe4", "a\u2028", "a\x00"),
        )

    def test_records(self):
        for value in (RECORD, (-3, False, "new", ""), (9, True, "old", "abcde")):
            self.assertIs(is_record(SCHEMA, value), True)

    def test_each_value_is_checked(self):
        for index, wrong in enumerate((10, 1, "odd", "abcdef")):
            self.assertIs(is_record(SCHEMA, RECORD[:index] + (wrong,) + RECORD[index + 1:]), False)

    def test_the_order_is_that_of_the_fields(self):
        self.assertIs(is_record(SCHEMA, (True, 4, "old", "a b")), False)
        self.assertIs(is_record(SCHEMA, (4, True, "a b", "old")), False)

    def test_a_value_more_or_less(self):
        for value in (RECORD + ("",), RECORD + (None,), RECORD[:3], RECORD[1:], (), (4,), RECORD + RECORD):
            self.assertIs(is_record(SCHEMA, value), False)

    def test_values_of_any_other_kind(self):
        for value in ANYTHING + (list(RECORD), dict(enumerate(RECORD)), iter(RECORD), "abcd", (RECORD,)):
            with self.subTest(value=value):
                self.assertIs(is_record(SCHEMA, value), False)
        self.assertIs(is_record((("t", ("text", 5)),), "a"), False)
        self.assertIs(is_record((("t", ("text", 5)),), ["a"]), False)


class DefaultTest(unittest.TestCase):
    """Point 102, the second half."""

    def default(self, kind):
        return default_record((("n", kind),))

    def same(self, first, second):
        self.assertEqual(first, second)
        self.assertEqual([type(value) for value in first], [type(value) for value in second])

    def test_integers(self):
        for low, high, nearest in (
            (3, 9, 3), (1, 1, 1), (1, BIG, 1), (-9, -3, -3), (-1, -1, -1), (-BIG, -1, -1), (-3, 9, 0), (0, 9, 0),
            (-9, 0, 0), (0, 0, 0), (-BIG, BIG, 0), (BIG, BIG, BIG), (-BIG, -BIG, -BIG),
        ):
            with self.subTest(low=low, high=high):
                self.same(self.default(("int", low, high)), (nearest,))

    def test_flags(self):
        self.same(self.default(("flag",)), (False,))

    def test_words(self):
        self.same(self.default(("word", ("new", "old"))), ("new",))
        self.same(self.default(("word", ("old", "new"))), ("old",))
        self.same(self.default(("word", ("if",))), ("if",))

    def test_texts(self):
        for most in (0, 5, 40):
            self.same(self.default(("text", most)), ("",))

    def test_all_kinds_together(self):
        self.same(default_record(SCHEMA), (0, False, "new", ""))
        schema = (("n", ("int", 3, 9)), ("on", ("flag",)), ("state", ("word", ("new", "old"))), ("note", ("text", 5)))
        self.same(default_record(schema), (3, False, "new", ""))
        self.same(default_record(schema[::-1]), ("", "new", False, 3))

    def test_a_default_record_is_a_record(self):
        for kind in (("int", 3, 9), ("int", -9, -3), ("flag",), ("word", WORDS[:8]), ("text", 0)):
            schema = (("n", kind),)
            self.assertIs(is_record(schema, default_record(schema)), True)


class InterfaceTest(unittest.TestCase):
    def test_the_limit(self):
        self.assertEqual(LIMIT, 1000000000000000000)

    def test_the_index_of_a_field(self):
        for index, name in enumerate(("n", "on", "state", "note")):
            self.assertEqual(field_index(SCHEMA, name), index)

    def test_the_index_of_an_unknown_field(self):
        for name in ("", "o", "no", "N", "nn", "notes", "int", "flag", "new"):
            self.assertEqual(field_index(SCHEMA, name), -1)

    def test_the_arguments_are_not_modified(self):
        kinds, words = ["text", 5], ["new", "old"]
        schema, record = [("n", kinds), ("m", ("word", words))], [5, []]
        before = copy.deepcopy((schema, record))
        with self.assertRaises(BadSchema):
            check_schema(schema)
        is_record(SCHEMA, record)
        self.assertEqual((schema, record), before)


if __name__ == "__main__":
    unittest.main()
