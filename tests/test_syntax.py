"""Tests of the text of a program: points 110, 111 and 112."""

import itertools
import random
import unittest

from sinktree.errors import BadText
from sinktree.syntax import parse_program, program_text
from sinktree.trees import is_program

BIG = 10 ** 9
PERCENT = chr(37)
N = ("field", "n")
M = ("field", "m")
ON = ("field", "on")
ONE = ("int", 1)
SKIP = ("skip",)
RESERVED = (
    "if", "else", "skip", "true", "false", "and", "or", "not", "min", "max", "mod", "pick", "cut", "join",
)
# Each expression with its text.
EXPRESSIONS = (
    (("int", 0), "0"),
    (("int", 7), "7"),
    (("int", 123456789), "123456789"),
    (("int", BIG), "1000000000"),
    (("int", -1), "-1"),
    (("int", -BIG), "-1000000000"),
    (("flag", True), "true"),
    (("flag", False), "false"),
    (("word", "new"), "'new"),
    (("word", "if"), "'if"),
    (("word", "zaz"), "'zaz"),
    (("word", "abcdefghijkl"), "'abcdefghijkl"),
    (("text", ""), '""'),
    (("text", "a b"), '"a b"'),
    (("text", "; { } ( ' = 1"), '"; { } ( \' = 1"'),
    (("text", " ~" * 20), '"' + " ~" * 20 + '"'),
    (N, "n"),
    (("field", "abcdefghijkl"), "abcdefghijkl"),
    (("field", "add"), "add"),
    (("add", N, M), "(n + m)"),
    (("sub", N, M), "(n - m)"),
    (("sub", N, ("int", 0)), "(n - 0)"),
    (("sub", N, ("int", -3)), "(n - -3)"),
    (("sub", ("int", -3), N), "(-3 - n)"),
    (("mul", N, M), "(n * m)"),
    (("less", N, M), "(n < m)"),
    (("same", N, M), "(n == m)"),
    (("and", N, M), "(n and m)"),
    (("or", N, M), "(n or m)"),
    (("div", N, 1), "(n / 1)"),
    (("div", N, BIG), "(n / 1000000000)"),
    (("mod", N, 7), "(n mod 7)"),
    (("mod", N, BIG), "(n mod 1000000000)"),
    (("not", N), "(not n)"),
    (("min", N, M), "min(n, m)"),
    (("max", N, M), "max(n, m)"),
    (("join", N, M), "join(n, m)"),
    (("pick", ON, N, M), "pick(on, n, m)"),
    (("cut", N, 0), "cut(n, 0)"),
    (("cut", N, 40), "cut(n, 40)"),
    (("add", ("mul", N, M), ("sub", ONE, ("int", -2))), "((n * m) + (1 - -2))"),
    (("not", ("and", ("not", ON), ("less", N, M))), "(not ((not on) and (n < m)))"),
    (("pick", ("same", N, M), ("min", N, ("max", M, ONE)), ("mod", ("div", N, 2), 3)),
     "pick((n == m), min(n, max(m, 1)), ((n / 2) mod 3))"),
    (("cut", ("join", ("cut", N, 3), ("text", "x")), 5), 'cut(join(cut(n, 3), "x"), 5)'),
)
PROGRAMS = (
    ((SKIP,), "skip"),
    ((SKIP, SKIP), "skip; skip"),
    ((("set", "n", ONE),), "n = 1"),
    ((("set", "n", ONE), SKIP, ("set", "m", N)), "n = 1; skip; m = n"),
    ((("if", ON, (SKIP,), (SKIP,)),), "if on { skip } else { skip }"),
    ((("if", ("less", N, M), (("set", "n", ONE), SKIP), (SKIP, ("set", "m", N))), SKIP),
     "if (n < m) { n = 1; skip } else { skip; m = n }; skip"),
    ((("if", ON, (("if", N, (SKIP,), (("set", "n", ONE),)),), (SKIP, ("if", M, (SKIP,), (SKIP, SKIP)))),),
     "if on { if n { skip } else { n = 1 } } else { skip; if m { skip } else { skip; skip } }"),
)


def index_of(text):
    try:
        parse_program(text)
    except BadText as error:
        return error.index
    return None


def tokens_of(text):
    """Cut a right text into its tokens."""
    tokens = []
    while text.strip(" "):
        text = text.lstrip(" ")
        size = 1
        if text[0] == '"':
            size = text.index('"', 1) + 1
        elif text.startswith("=="):
            size = 2
        elif text[0].isalnum() or text[0] == "'":
            while size < len(text) and (text[size].isdigit() if text[0].isdigit() else text[size].isalpha()):
                size += 1
        tokens.append(text[:size])
        text = text[size:]
    return tokens


def must_stand_apart(first, second):
    """Tell whether two tokens would become others without a space between them."""
    if first[0] in "'abcdefghijklmnopqrstuvwxyz":
        return second[0].isalpha()
    return first[0].isdigit() and second[0].isdigit() or first[-1] == second[0] == "="


def nested_text(kind, many):
    """Return the text of a program whose depth is this number."""
    if kind == "ifs":
        return "if true { " * (many - 1) + "skip" + " } else { skip }" * (many - 1)
    if kind == "elses":
        return "if true { skip } else { " * (many - 1) + "skip" + " }" * (many - 1)
    before, behind = {
        "sums": ("(", " + 1)"), "not": ("(not ", ")"), "div": ("(", " / 2)"), "min": ("min(", ", 1)"),
        "cut": ("cut(", ", 1)"),
    }[kind]
    return "n = " + before * (many - 2) + "n" + behind * (many - 2)


class Writing(unittest.TestCase):
    def test_expressions(self):
        for expression, text in EXPRESSIONS:
            with self.subTest(text=text):
                self.assertEqual(program_text((("set", "n", expression),)), "n = " + text)

    def test_programs(self):
        for program, text in PROGRAMS:
            with self.subTest(text=text):
                self.assertEqual(program_text(program), text)

    def test_conditions(self):
        for expression, text in EXPRESSIONS:
            program = (("if", expression, (("set", "n", expression),), (SKIP,)),)
            expected = "if " + text + " { n = " + text + " } else { skip }"
            with self.subTest(text=text):
                self.assertEqual(program_text(program), expected)


class Reading(unittest.TestCase):
    def expect(self, text, program):
        with self.subTest(text=text):
            self.assertEqual(repr(parse_program(text)), repr(program))

    def value(self, text, expression):
        self.expect("n = " + text, (("set", "n", expression),))

    def test_expressions(self):
        for expression, text in EXPRESSIONS:
            self.value(text, expression)

    def test_programs(self):
        for program, text in PROGRAMS:
            self.expect(text, program)

    def test_the_examples_of_the_document(self):
        self.expect(
            "n = min(9, (n + 4)); skip",
            (("set", "n", ("min", ("int", 9), ("add", ("field", "n"), ("int", 4)))), ("skip",)),
        )
        self.assertEqual(index_of("n = n + 4"), 6)

    def test_spaces_around_all_tokens(self):
        texts = [(text, program) for program, text in PROGRAMS]
        texts.extend([("n = " + text, (("set", "n", expression),)) for expression, text in EXPRESSIONS])
        for text, program in texts:
            tokens = tokens_of(text)
            self.expect(" ".join(tokens), program)
            self.expect("   ".join([""] + tokens + [""]), program)

    def test_no_spaces_where_tokens_stay_apart(self):
        texts = [(text, program) for program, text in PROGRAMS]
        texts.extend([("n = " + text, (("set", "n", expression),)) for expression, text in EXPRESSIONS])
        for text, program in texts:
            tokens = tokens_of(text)
            close = tokens[0]
            for first, second in zip(tokens, tokens[1:]):
                close += (" " if must_stand_apart(first, second) else "") + second
            self.expect(close, program)

    def test_tokens_side_by_side(self):
        self.value("(1mod3)", ("mod", ONE, 3))
        self.value("(1and 2)", ("and", ONE, ("int", 2)))
        self.value("('new=='old)", ("same", ("word", "new"), ("word", "old")))
        self.value("(not(n<1))", ("not", ("less", N, ONE)))
        self.expect("n=1;m=n;skip", (("set", "n", ONE), ("set", "m", N), SKIP))
        self.expect("if(n<1){skip}else{skip}", (("if", ("less", N, ONE), (SKIP,), (SKIP,)),))
        self.expect("if\"\"{skip}else{skip}", (("if", ("text", ""), (SKIP,), (SKIP,)),))
        self.expect("if'a{skip}else{skip}", (("if", ("word", "a"), (SKIP,), (SKIP,)),))
        self.expect("if-1{skip}else{skip}", (("if", ("int", -1), (SKIP,), (SKIP,)),))

    def test_longer_names_are_fields(self):
        for name in ("ifn", "skipped", "truer", "mini", "nota", "orb", "modn", "a", "z", "zebra", "azz", "picks"):
            self.value(name, ("field", name))
            self.expect(name + " = 1", (("set", name, ONE),))

    def test_a_sign_before_a_number(self):
        self.value("- 5", ("int", -5))
        self.value("-    5", ("int", -5))
        self.value("-5", ("int", -5))
        self.value("(n-5)", ("sub", N, ("int", 5)))
        self.value("(n- 5)", ("sub", N, ("int", 5)))
        self.value("(n--5)", ("sub", N, ("int", -5)))
        self.value("(n - - 5)", ("sub", N, ("int", -5)))
        self.value("(- 5 - - 5)", ("sub", ("int", -5), ("int", -5)))
        self.value("min(- 5, -6)", ("min", ("int", -5), ("int", -6)))

    def test_one_program_for_each_text(self):
        for (first, a), (second, b) in itertools.combinations(EXPRESSIONS, 2):
            self.assertNotEqual(a, b)
            self.assertNotEqual(first, second)

    def test_the_longest_text(self):
        for size in (1999, 2000):
            self.expect("skip" + " " * (size - 4), (SKIP,))
            self.expect(" " * (size - 4) + "skip", (SKIP,))

    def test_the_deepest_program(self):
        for kind in ("ifs", "elses", "sums", "not", "div", "min", "cut"):
            program = parse_program(nested_text(kind, 20))
            with self.subTest(kind=kind):
                self.assertTrue(is_program(program))
                self.assertEqual(parse_program(program_text(program)), program)

    def test_the_largest_program(self):
        self.expect(";".join(["skip"] * 200), (SKIP,) * 200)
        self.expect(";".join(["n=1"] * 100), (("set", "n", ONE),) * 100)


class Errors(unittest.TestCase):
    def expect(self, text, index):
        with self.subTest(text=text):
            self.assertEqual(index_of(text), index)

    def marked(self, text):
        """Expect the error where the mark ^ stands, which is taken out."""
        self.expect(text.replace("^", ""), text.index("^"))

    def value(self, text):
        """Expect the error where the mark stands, in an expression and in one within others."""
        self.marked("n = " + text)
        self.marked("skip;  n = " + text)
        self.marked("n = (m + " + text)
        self.marked("n = pick(on, min(1," + text)
        self.marked("if true { skip } else { if " + text)

    def test_tokens_that_cannot_continue_a_statement(self):
        for text in (
            "^5", "^'new", '^"a"', "^;", "^=", "^==", "^{", "^}", "^(", "^)", "^,", "^+", "^-", "^*", "^/", "^<",
            "  ^5", "skip; ^;", "skip;^5", "skip; ^}", "skip ^skip", "skip ^n = 1", "skip^}", "skip ^, skip", "skip ^= 1",
            "n ^5", "n ^n = 1", "n ^== 1", "n ^; skip", "n^(1)", "n = ^= 1", "n ^'new", "n = 1 ^n = 2", "n = 1^}",
            "n = 1 ^else { skip }", "n = 1 ^skip", "if ^{ skip }", "if on ^skip", "if on ^; skip", "if on ^( skip )",
            "if on { ^} else { skip }", "if on { skip ^else { skip }", "if on { skip ^) else", "if on { skip; ^}",
            "if on { skip } ^skip", "if on { skip } ^; skip", "if on { skip } ^{ skip }", "if on { skip } ^}",
            "if on { skip } else ^skip", "if on { skip } else ^if on { skip } else { skip }",
            "if on { skip } else { ^}", "if on { skip } else { skip } ^}", "if on { skip } else { skip } ^skip",
            "if on { skip } else { skip } ^else { skip }", "if on { n ^} else { skip }",
        ):
            self.marked(text)

    def test_tokens_that_cannot_continue_an_expression(self):
        for text in (
            "^)", "^;", "^=", "^==", "^{", "^}", "^,", "^+ 1", "^* 1", "^/ 1", "^< 1", "- ^n", "- ^- 1", "- ^(1 + 2)",
            "- ^)", "-^'a", "(^)", "(^+ 1)", "(n ^)", "(n ^n)", "(n ^1)", "(n ^= 1)", "(n ^= = 1)",
            "(n ^not m)", "(n ^min m)", "(n ^, m)", "(n ^; m)", "(n ^{", "(n + ^)", "(n + ^, 1)", "(n + m ^+ 1)",
            "(n + m^;", "(n + m ^}", "(n + m ^, 1)", "(not ^)", "(not ^not n)", "(not n ^+ 1)", "(not n ^and m)", "(n == ^= 1)",
            "(n == ^== 1)", "(n / ^n)", "(n / ^(1 + 1))", "(n / ^'a)", "(n mod ^n)", "(n mod ^)", "(n / 2 ^/ 2)",
            "(n / - ^n)", "(n / -^-2)", "min ^n, m)", "min ^= 1", "min(^)", "min(n ^)", "min(n ^m)", "min(n, ^)", "min(n, m ^, m)",
            "min(n, m^;", "join(n^)", "max(n^;", "pick(on, n ^)", "pick(on ^)", "pick(on, n, m ^, m)", "pick(^,",
            "cut(n ^)", "cut(n, ^n)", "cut(n, ^)", "cut(n, 3 ^, 3)", "cut(n, - ^)", "cut(n, ^\"a\")",
        ):
            self.value(text)

    def test_operators_stand_in_parentheses(self):
        for text in (
            "n = n ^+ 4", "n = n ^- 4", "n = n ^* 4", "n = 1 ^== 1", "n = on ^and on", "n = n ^mod 3", "n = n ^/ 3",
            "if n ^< 3 { skip }", "n = ^not on", "if ^not on {", "n = -1 ^- 1", "n = (n + 1) ^+ 1",
            "n = ((n^) + 1)", "n = (n^)",
        ):
            self.marked(text)

    def test_characters_that_begin_no_token(self):
        for letter in ("#", "$", PERCENT, "&", ".", ":", ">", "?", "@", "A", "N", "Z", "[", "\\", "]", "_", "`", "|",
                       "~", "!", "\t", "\n", "\r", "\x00", "\x7f", "\u00e4", "\u00b2", "\u0663", "\U0001f600", "\u00a0", "\u3000"):
            for before in (
                "", " ", "skip", "skip ", "skip;", "n", "n = ", "n = 1", "n = (", "n = (n", "n = (n +", "n = min", "n = min(n,",
                "if ", "if on {", "if on { skip }", "n = (n / ", "n = -", "n = cut(n, ", "n = (not ", "n = cut(n, -",
            ):
                self.expect(before + letter, len(before))
                self.expect(before + letter + " skip", len(before))
        self.expect("^", 0)
        self.expect("n = ^", 4)

    def test_a_quote_mark_without_a_letter_begins_no_token(self):
        self.value("^'")
        self.value("^' a")
        self.value("^'1")
        self.value("^'A")
        self.value("^''a")
        self.value("^'\"a\"")
        self.marked("n = 'new^'")
        self.marked("^'")

    def test_texts_that_are_not_closed(self):
        for text in ('n = "', 'n = "a', 'n = "a b ', "n = \"'", 'skip; n = join("a", "b', 'if "} { skip } else { skip }'):
            self.expect(text, len(text))
        self.expect('n = "a" "', 9)

    def test_characters_that_are_not_allowed_in_a_text(self):
        for letter in (PERCENT, "\\", "\n", "\t", "\x00", "\x1f", "\x7f", "\u00e4", "\u00a0"):
            self.expect('n = "' + letter + '"', 5)
            self.expect('n = "ab' + letter + 'c"', 7)
            self.expect('n = "ab' + letter, 7)
            self.expect('n = "ab' + letter + PERCENT + '"', 7)
        self.expect('n = "a\\"b"', 6)

    def test_texts_that_end_too_early(self):
        for size in (0, 1, 2, 100, 2000):
            self.expect(" " * size, size)
        whole = ("if ((n < -5) and (not on)) { n = min(9, (n + 4)); skip } else { n = pick(on, (n / 2), (n mod 3)); "
                 "t = cut(join(\"a b\", t), 7) }")
        self.expect(whole, None)
        tokens = tokens_of(whole)
        for many in range(len(tokens)):
            before = " ".join(tokens[:many])
            self.expect(before, len(before))
            self.expect(before + "  ", len(before) + 2)

    def test_a_semicolon_at_the_end(self):
        self.expect("skip;", 5)
        self.expect("skip; ", 6)
        self.expect("n = 1;", 6)
        self.marked("if on { skip; ^} else { skip }")

    def test_numbers_of_many_digits(self):
        self.value("^10000000000")
        self.value("^12345678901")
        self.value("-^12345678901")
        self.value("- ^12345678901")
        self.value("(n / ^12345678901")
        self.value("cut(n, ^12345678901")
        self.value("^" + "9" * 1500)
        self.value("^" + "0" * 11)

    def test_numbers_out_of_their_ranges(self):
        self.value("^1000000001")
        self.value("-^1000000001")
        self.value("-  ^1000000001")
        self.value("^9999999999")
        self.value("(n / ^0)")
        self.value("(n / ^1000000001)")
        self.value("(n mod ^0)")
        self.value("(n mod ^1000000001)")
        self.value("(n / -^1)")
        self.value("(n mod -  ^1)")
        self.value("cut(n, ^41)")
        self.value("cut(n, -^1)")
        self.value("cut(n, - ^40)")
        self.value("cut(n, ^1000000000)")
        self.value("(n mod -^1000000000)")

    def test_the_ends_of_the_ranges(self):
        for text in ("1000000000", "-1000000000", "(n / 1)", "(n / 1000000000)", "(n mod 1)", "(n mod 1000000000)",
                     "cut(n, 0)", "cut(n, 40)", "0"):
            self.expect("n = " + text, None)

    def test_zeros(self):
        self.value("^00")
        self.value("^01")
        self.value("^007")
        self.value("-^0")
        self.value("- ^0")
        self.value("-^00")
        self.value("-^01")
        self.value("(n - -^0)")
        self.value("(n / ^01)")
        self.value("(n / ^00)")
        self.value("(n / -^0)")
        self.value("(n mod ^010)")
        self.value("cut(n, ^00)")
        self.value("cut(n, ^05)")
        self.value("cut(n, -^0)")
        self.expect("n = (n - 0)", None)
        self.expect("n = (n - 10)", None)
        self.expect("n = -10", None)

    def test_long_names_and_words(self):
        self.marked("^abcdefghijklm = 1")
        self.marked("skip; ^abcdefghijklm = 1")
        self.value("^abcdefghijklm")
        self.value("^" + "a" * 1500)
        self.value("^'abcdefghijklm")
        self.value("^'" + "a" * 1500)
        self.value("(n ^abcdefghijklm")
        self.expect("abcdefghijkl = abcdefghijkl", None)
        self.expect("n = 'abcdefghijkl", None)

    def test_long_texts(self):
        self.value('^"' + "a" * 41 + '"')
        self.value('^"' + "a" * 1500 + '"')
        self.value('^"' + " " * 41 + '"')
        self.expect('n = "' + "a" * 40 + '"', None)

    def test_reserved_names(self):
        for name in RESERVED:
            if name not in ("if", "skip"):
                self.marked("^" + name + " = 1")
                self.marked("skip; ^" + name + " = 1")
                self.marked("if on { ^" + name + " = 1")
        self.marked("skip ^= 1")
        self.marked("if ^= 1")
        for name in ("if", "else", "skip", "and", "or", "not", "mod"):
            self.value("^" + name)
            self.value("^" + name + "(1, 2)")
        for name in ("min", "max", "pick", "cut", "join"):
            self.value(name + " ^+ 1")
            self.expect("n = " + name, 4 + len(name))
        self.value("(^and")
        self.value("(n + ^not")
        self.value("(true ^= ")

    def test_the_length_of_the_text(self):
        self.expect("skip" + " " * 1996, None)
        self.expect("skip" + " " * 1997, 0)
        self.expect("skip; " + "?" * 1995, 0)
        self.expect("skip; " + "?" * 1994, 6)
        self.expect(" " * 2001, 0)
        self.expect("n = \"" + "a" * 5000, 0)

    def test_values_that_are_no_strings(self):
        for value in (None, True, False, 0, 5, 1.5, b"skip", (), ("skip",), ["skip"], {"skip": 1}, object(), str, (("skip",),)):
            self.expect(value, 0)

    def test_depth(self):
        for kind in ("ifs", "elses", "sums", "not", "div", "min", "cut"):
            self.expect(nested_text(kind, 19), None)
            self.expect(nested_text(kind, 20), None)
            self.expect(nested_text(kind, 21), 0)
            self.expect(nested_text(kind, 40), 0)
        self.expect("n = pick(on, n, " + "(" * 18 + "1", 0)
        self.expect("n = (n + " + "(" * 18 + "1", 0)
        self.expect("n = cut(" + "(" * 17 + "1", 8 + 17 + 1)

    def test_depth_where_the_text_ends(self):
        for before, many in (
            ("n = " + "(" * 17, 22 - 1), ("n = " + "(not " * 17, 4 + 85), ("n = " + "min(" * 17, 4 + 68),
            ("if true { " * 18 + "n = ", 184), ("if true { " * 18 + "if ", 183), ("if true { " * 18, 180),
            ("if true { " * 18 + "if true {", 189)
        ):
            self.expect(before, many)
        for before in (
            "n = " + "(" * 19, "n = " + "(not " * 19, "n = " + "min(" * 19, "n = " + "cut(" * 19, "n = " + "pick(" * 19,
            "n = (n + " + "(" * 18, "n = max(n, " + "(" * 18, "if true { " * 19 + "n = ", "if true { " * 19 + "if ",
            "if " + "(" * 19, "if true { skip } else { " * 19 + "n = ", "if true { skip } else { " * 19 + "if ",
        ):
            self.expect(before, 0)
            self.expect(before + "  ", 0)
            self.expect(before + "1", 0)
            self.expect(before + "n", 0)
            self.expect(before + ")", 0)
            self.expect(before + ";", 0)
            self.expect(before + "'a", 0)
            self.expect(before + '"a"', 0)
            # Where no token stands, its character is found first.
            self.expect(before + "?", len(before))
            self.expect(before + "  ?", len(before) + 2)
            self.expect(before + "'", len(before))
            self.expect(before + '"a', len(before) + 2)

    def test_errors_before_and_behind_the_depth(self):
        deep = nested_text("sums", 21)
        self.expect("skip;; " + deep, 5)
        self.expect(deep + " ?", 0)
        self.expect("n = ? " + deep, 4)

    def test_a_deep_place_that_is_not_expected(self):
        # The operator and the parenthesis may stand behind the deepest expressions.
        self.expect("n = " + "(" * 18 + "1 )", 4 + 18 + 2)
        self.expect("n = " + "(" * 18 + "1 + 1 + 1", 4 + 18 + 6)
        self.expect("n = " + "(" * 18 + "1 / n", 4 + 18 + 4)

    def test_nodes(self):
        self.expect(";".join(["skip"] * 200), None)
        self.expect(";".join(["skip"] * 201), 0)
        self.expect(";".join(["n=1"] * 100 + ["skip"]), 0)
        self.expect(";".join(["n=(n+1)"] * 50), None)
        self.expect(";".join(["n=(n+1)"] * 50 + ["skip"]), 0)
        block = ";".join(["skip"] * 99)
        self.expect("if on {" + block + "} else {" + block + "}", None)
        self.expect("if on {" + block + "} else {" + block + ";skip}", 0)

    def test_nodes_and_another_error(self):
        text = ";".join(["skip"] * 201)
        self.expect(text + ";", len(text) + 1)
        self.expect(text + " ?", len(text) + 1)
        self.expect(text + " skip", len(text) + 1)
        self.expect(text + '; n = "', len(text) + 7)
        self.expect(text + ";n=-0", len(text) + 4)
        self.expect(text + "; if", len(text) + 4)
        self.expect("?" + text, 0)

    def test_the_first_error_counts(self):
        self.expect("n = 01; m = ?", 4)
        self.expect("n = 1000000001 ?", 4)
        self.expect("n = abcdefghijklm ?", 4)
        self.expect('n = "' + "a" * 41 + '" ?', 4)
        self.expect("n = 1 ? 01", 6)
        self.expect("n = ) ?", 4)
        self.expect("n = (1 + ) 01", 9)


class Promise(unittest.TestCase):
    def test_what_stands_before_an_error_may_be_continued(self):
        # A text that ends where an error was found is a program, or it ends too early.
        maker = random.Random(112)
        parts = ["n", "=", "==", ";", "{", "}", "(", ")", ",", "+", "-", "*", "/", "<", "0", "1", "42", "'new", "'", '"a b"', '"',
                 "if", "else", "skip", "true", "and", "or", "not", "min", "mod", "pick", "cut", "join", "?", "A", " ", "01"]
        texts = [text for _, text in PROGRAMS] + ["n = " + text for _, text in EXPRESSIONS]
        found = 0
        for _ in range(6000):
            tokens = tokens_of(maker.choice(texts))
            for _ in range(maker.randint(1, 2)):
                at = maker.randrange(len(tokens) + 1)
                tokens[at:at + maker.randint(0, 1)] = [maker.choice(parts) for _ in range(maker.randint(0, 2))]
            text = maker.choice(("", " ", "  ")).join(tokens)
            index = index_of(text)
            if index is None:
                program = parse_program(text)
                self.assertTrue(is_program(program))
                self.assertEqual(parse_program(program_text(program)), program)
            else:
                found += 1
                self.assertTrue(0 <= index <= len(text), text)
                self.assertIn(index_of(text[:index]), (None, index), text)
        self.assertGreater(found, 1000)


if __name__ == "__main__":
    unittest.main()
