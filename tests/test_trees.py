"""Tests of the shape of points 103 and 104."""

import copy
import unittest

from sinktree.trees import is_program

BIG = 10 ** 9
PERCENT = chr(37)
ONE = ("int", 1)
YES = ("flag", True)
NOTE = ("text", "a")
SKIP = ("skip",)
RESERVED = (
    "if", "else", "skip", "true", "false", "and", "or", "not", "min", "max", "mod", "pick", "cut", "join",
)
EXPRESSIONS = (
    ("int", 5), ("flag", True), ("flag", False), ("word", "new"), ("text", "a b"), ("field", "n"),
    ("add", ONE, ONE), ("sub", ONE, ONE), ("mul", ONE, ONE), ("min", ONE, ONE), ("max", ONE, ONE),
    ("div", ONE, 3), ("mod", ONE, 3), ("less", ONE, ONE), ("same", NOTE, NOTE),
    ("not", YES), ("and", YES, YES), ("or", YES, YES), ("pick", YES, ONE, ONE), ("cut", NOTE, 3), ("join", NOTE, NOTE),
)
STATEMENTS = (("set", "n", ONE), ("if", YES, (SKIP,), (SKIP,)), SKIP)
ANYTHING = (
    None, True, False, 0, 1, -1, 1.0, 10 ** 30, "", "skip", "n", b"skip", (), [], {}, set(), (None,), ((),), [()],
    ("",), (0,), ("skip", "skip"), object(), int, len, range(3),
)


def with_expression(expression):
    """Return a program that sets a field to the expression."""
    return (("set", "n", expression),)


def sum_of(many):
    """Return an expression with so many integers and many - 1 sums, as flat as can be."""
    level = [ONE] * many
    while len(level) > 1:
        pairs = [("add", level[k], level[k + 1]) for k in range(0, len(level) - 1, 2)]
        level = pairs + level[len(pairs) * 2:]
    return level[0]


def nested(many, expression):
    """Return the expression inside of so many others."""
    for k in range(many):
        expression = ("div", expression, k + 1)
    return expression


def nested_ifs(many, inner, second=False):
    """Return a program with the inner one inside of so many ifs, in their first or second programs."""
    for _ in range(many):
        inner = (("if", YES, (SKIP,), inner),) if second else (("if", YES, inner, (SKIP,)),)
    return inner


class Cases(unittest.TestCase):
    def accept(self, value):
        with self.subTest(value=value):
            self.assertIs(is_program(value), True)

    def reject(self, value):
        with self.subTest(value=value):
            self.assertIs(is_program(value), False)

    def accept_expression(self, value):
        for program in self.places(value):
            self.accept(program)

    def reject_expression(self, value):
        for program in self.places(value):
            self.reject(program)

    def places(self, value):
        """Return programs with the expression in each place where one may stand."""
        inside = (
            ("not", value), ("add", value, ONE), ("add", ONE, value), ("less", value, ONE), ("less", ONE, value),
            ("pick", value, ONE, ONE), ("pick", YES, value, ONE), ("pick", YES, ONE, value),
            ("div", value, 3), ("mod", value, 3), ("cut", value, 3), ("join", NOTE, value),
        )
        return [with_expression(value), (("if", value, (SKIP,), (SKIP,)),)] + [with_expression(e) for e in inside]

    def reject_statement(self, value):
        self.reject((value,))
        self.reject((SKIP, value))
        self.reject((value, SKIP))
        self.reject((("if", YES, (value,), (SKIP,)),))
        self.reject((("if", YES, (SKIP,), (SKIP, value)),))


class StatementTest(Cases):
    """Point 103."""

    def test_each_form(self):
        for statement in STATEMENTS:
            self.accept((statement,))
            self.accept((statement, SKIP))
            self.accept((("if", YES, (statement,), (SKIP,)),))
            self.accept((("if", YES, (SKIP,), (statement,)),))
        self.accept(STATEMENTS)
        self.accept((("if", YES, STATEMENTS, STATEMENTS),))

    def test_an_operand_too_many_or_too_few(self):
        for statement in STATEMENTS:
            for extra in (None, (), 0, ONE, SKIP, (SKIP,)):
                self.reject_statement(statement + (extra,))
        for statement in (("set", "n", ONE), ("if", YES, (SKIP,), (SKIP,))):
            for many in range(1, len(statement)):
                self.reject_statement(statement[:many])
        self.reject_statement(("set", ONE))
        self.reject_statement(("if", (SKIP,), (SKIP,)))

    def test_an_unknown_head(self):
        for statement in STATEMENTS:
            for head in ("", "Set", "SKIP", "sett", "while", "int", "add", "n", None, True, 0, b"set", (), ("set",),
                         ["set"], {}):
                self.reject_statement((head,) + statement[1:])

    def test_a_list_for_a_tuple(self):
        for statement in STATEMENTS:
            self.reject_statement(list(statement))
        self.reject([SKIP])
        self.reject(list(STATEMENTS))
        self.reject((("if", YES, [SKIP], (SKIP,)),))
        self.reject((("if", YES, (SKIP,), [SKIP]),))
        self.reject(((["set"], "n", ONE),))
        for expression in EXPRESSIONS:
            self.reject_expression(list(expression))

    def test_the_parts_stand_in_their_order(self):
        self.reject_statement(("set", ONE, "n"))
        self.reject_statement(("if", (SKIP,), YES, (SKIP,)))
        self.reject_statement(("if", (SKIP,), (SKIP,), YES))

    def test_names(self):
        for name in ("a", "z", "abcdefghijkl", "int", "set"):
            self.accept((("set", name, ONE),))
        for name in ("", "abcdefghijklm", "N", "n1", "n n", "n_", "\xe4", "n\n", PERCENT, None, True, 0, b"n", ("n",),
                     ["n"], ("field", "n")) + RESERVED:
            self.reject_statement(("set", name, ONE))

    def test_an_empty_program(self):
        self.reject(())
        self.reject((("if", YES, (), (SKIP,)),))
        self.reject((("if", YES, (SKIP,), ()),))
        self.reject((("if", YES, (), ()),))
        self.reject((("if", YES, (SKIP,), (("if", YES, (SKIP,), ()),)),))
        self.reject((SKIP, ("if", YES, (("if", YES, (), (SKIP,)),), (SKIP,))))

    def test_a_statement_for_a_program(self):
        for statement in STATEMENTS:
            self.reject(statement)
            self.reject((("if", YES, statement, (SKIP,)),))
            self.reject((("if", YES, (SKIP,), statement),))
            self.reject(((statement,),))

    def test_an_expression_for_a_statement(self):
        for expression in EXPRESSIONS:
            self.reject_statement(expression)

    def test_a_statement_for_an_expression(self):
        for statement in STATEMENTS:
            self.reject_expression(statement)
            self.reject_expression((statement,))

    def test_the_parts_of_an_if_are_checked(self):
        for wrong in (("set", "n", ("int", True)), ("set", "n", ("add", ONE)), ("go",), ("if", ONE)):
            self.reject_statement(wrong)

    def test_values_of_any_other_kind(self):
        for value in ANYTHING:
            self.reject(value)
            self.reject_statement(value)
            if value != "n":
                self.reject_statement(("set", value, ONE))
            self.reject((("if", YES, value, (SKIP,)),))
            self.reject((("if", YES, (SKIP,), value),))
        self.reject(iter(STATEMENTS))
        self.reject({SKIP: SKIP})
        self.reject("skip")


class ExpressionTest(Cases):
    """Point 104."""

    def test_each_form(self):
        for expression in EXPRESSIONS:
            self.accept_expression(expression)

    def test_kinds_of_operands_are_not_checked(self):
        for expression in EXPRESSIONS:
            self.accept_expression(("not", expression))
            self.accept_expression(("join", expression, expression))

    def test_an_operand_too_many(self):
        for expression in EXPRESSIONS:
            for extra in (None, (), 0, 3, True, "n", ONE):
                self.reject_expression(expression + (extra,))
            self.reject_expression(expression[:1] + (ONE,) + expression[1:])

    def test_an_operand_too_few(self):
        for expression in EXPRESSIONS:
            for many in range(1, len(expression)):
                self.reject_expression(expression[:many])
            for many in range(2, len(expression)):
                self.reject_expression(expression[:1] + expression[many:])

    def test_an_unknown_head(self):
        for expression in EXPRESSIONS:
            for head in ("", "Add", "ADD", "plus", "neg", "set", "skip", "if", "number", "n", None, True, 0, b"add", (),
                         ("add",), ["add"], {}):
                self.reject_expression((head,) + expression[1:])

    def test_each_operand_is_an_expression(self):
        wrongs = (None, True, 5, "n", "a", (), (5,), ("n",), ["int", 5], ("go", ONE), ("int", True), (ONE,), SKIP)
        for expression in EXPRESSIONS[6:]:
            for index in range(1, len(expression)):
                if isinstance(expression[index], tuple):
                    for wrong in wrongs:
                        self.reject_expression(expression[:index] + (wrong,) + expression[index + 1:])

    def test_integers(self):
        for number in (0, 1, -1, BIG, -BIG, BIG - 1):
            self.accept_expression(("int", number))
        for number in (BIG + 1, -BIG - 1, 10 ** 30, -10 ** 30, True, False, None, 1.0, "1", "", (1,), ONE):
            self.reject_expression(("int", number))

    def test_flags(self):
        for value in (0, 1, None, "true", "", (), YES, 1.0):
            self.reject_expression(("flag", value))

    def test_the_numbers_of_div_and_mod(self):
        for head in ("div", "mod"):
            for number in (1, 2, BIG - 1, BIG):
                self.accept_expression((head, ONE, number))
            for number in (0, -1, BIG + 1, -BIG, 10 ** 30, True, False, None, 1.0, "1", ONE):
                self.reject_expression((head, ONE, number))
            self.reject_expression((head, 3, ONE))

    def test_the_number_of_cut(self):
        for number in (0, 1, 39, 40):
            self.accept_expression(("cut", NOTE, number))
        for number in (-1, 41, BIG, True, False, None, 1.0, "1", ONE):
            self.reject_expression(("cut", NOTE, number))
        self.reject_expression(("cut", 3, NOTE))

    def test_words(self):
        for word in ("a", "z", "new", "abcdefghijk", "abcdefghijkl") + RESERVED:
            self.accept_expression(("word", word))
        for word in ("", "abcdefghijklm", "New", "n1", "n w", "n-w", "n_w", "'new", 'n"', "n\\", "{", "`", PERCENT,
                     "\xe4", "n\n", None, True, 5, b"new", ("new",), ["new"]):
            self.reject_expression(("word", word))

    def test_texts(self):
        for text in ("", "a", "a b", "~", " ", "'", "new", "{}", "a" * 39, "a" * 40):
            self.accept_expression(("text", text))
        for text in ("a" * 41, "a" * 1000, '"', 'a"b', "\\", "a\\b", PERCENT, "a" + PERCENT, "\n", "a\n", "\t", "\x1f",
                     "\x7f", "\xe4", "a\u2028", "\x00", None, True, 5, b"a", ("a",), ["a"]):
            self.reject_expression(("text", text))

    def test_each_character_of_a_text(self):
        for code in range(300):
            right = 32 <= code < 127 and chr(code) not in PERCENT + '"\\'
            with self.subTest(code=code):
                self.assertIs(is_program(with_expression(("text", chr(code)))), right)

    def test_fields(self):
        for name in ("a", "z", "n", "abcdefghijkl", "int", "add", "field"):
            self.accept_expression(("field", name))
        for name in ("", "abcdefghijklm", "N", "n1", "n n", "n_", "\xe4", "n\n", PERCENT, None, True, 0, b"n", ("n",),
                     ["n"]) + RESERVED:
            self.reject_expression(("field", name))

    def test_values_of_any_other_kind(self):
        for value in ANYTHING:
            self.reject_expression(value)


class SizeTest(Cases):
    """The limit of 200 nodes."""

    def test_the_size_by_statements(self):
        self.accept((SKIP,) * 199)
        self.accept((SKIP,) * 200)
        self.reject((SKIP,) * 201)
        self.reject((SKIP,) * 100000)

    def test_the_size_by_sets(self):
        self.accept((("set", "n", ONE),) * 100)
        self.reject((("set", "n", ONE),) * 100 + (SKIP,))
        self.reject((("set", "n", ONE),) * 101)

    def test_the_size_by_expressions(self):
        # 1 for the set, 100 integers and 99 sums
        self.accept(with_expression(sum_of(100)))
        self.reject(with_expression(sum_of(100)) + (SKIP,))
        self.reject(with_expression(("not", sum_of(100))))
        self.reject(with_expression(sum_of(101)))

    def test_numbers_are_no_nodes(self):
        for head in ("div", "mod", "cut"):
            self.accept((("set", "n", (head, ONE, 3)),) * 66 + (SKIP, SKIP))
            self.reject((("set", "n", (head, ONE, 3)),) * 66 + (SKIP, SKIP, SKIP))

    def test_the_size_by_ifs(self):
        # 4 nodes each: the if, its condition, and two statements
        self.accept((("if", YES, (SKIP,), (SKIP,)),) * 50)
        self.reject((("if", YES, (SKIP,), (SKIP,)),) * 50 + (SKIP,))

    def test_the_size_of_the_programs_of_an_if(self):
        self.accept((("if", YES, (SKIP,) * 99, (SKIP,) * 99),))
        self.reject((("if", YES, (SKIP,) * 100, (SKIP,) * 99),))
        self.reject((("if", YES, (SKIP,) * 99, (SKIP,) * 100),))
        self.reject((("if", ("not", YES), (SKIP,) * 99, (SKIP,) * 99),))
        self.reject((SKIP, ("if", YES, (SKIP,) * 99, (SKIP,) * 99)))

    def test_the_size_of_a_pick(self):
        # 5 nodes each: the set, the pick and its operands
        self.accept((("set", "n", ("pick", YES, ONE, ONE)),) * 40)
        self.reject((("set", "n", ("pick", YES, ONE, ONE)),) * 40 + (SKIP,))

    def test_a_small_value_with_very_many_nodes(self):
        expression = ONE
        for _ in range(18):
            expression = ("add", expression, expression)
        self.reject(with_expression(expression))
        program = (SKIP,)
        for _ in range(19):
            program = (("if", YES, program, program),)
        self.reject(program)


class DepthTest(Cases):
    """The limit of 20 levels."""

    def test_the_depth_by_expressions(self):
        # The set has the depth 1, and the innermost integer the depth 2 + 18.
        self.accept(with_expression(nested(17, ONE)))
        self.accept(with_expression(nested(18, ONE)))
        self.reject(with_expression(nested(19, ONE)))
        self.reject(with_expression(nested(20, ONE)))

    def test_the_depth_in_each_operand(self):
        for many, check in ((17, self.accept), (18, self.reject)):
            for head in ("add", "sub", "mul", "min", "max", "less", "same", "and", "or", "join"):
                check(with_expression((head, nested(many, ONE), ONE)))
                check(with_expression((head, ONE, nested(many, ONE))))
            for index in (1, 2, 3):
                operands = [ONE, ONE, ONE]
                operands[index - 1] = nested(many, ONE)
                check(with_expression(("pick",) + tuple(operands)))
            for head in ("div", "mod", "cut"):
                check(with_expression((head, nested(many, ONE), 3)))
            check(with_expression(("not", nested(many, ONE))))

    def test_the_depth_of_a_condition(self):
        self.accept((("if", nested(18, ONE), (SKIP,), (SKIP,)),))
        self.reject((("if", nested(19, ONE), (SKIP,), (SKIP,)),))

    def test_the_depth_by_ifs(self):
        for second in (False, True):
            self.accept(nested_ifs(18, (SKIP,), second))
            self.accept(nested_ifs(19, (SKIP,), second))
            self.reject(nested_ifs(20, (SKIP,), second))
            self.reject(nested_ifs(21, (SKIP,), second))

    def test_the_depth_by_ifs_and_expressions(self):
        for second in (False, True):
            self.accept(nested_ifs(18, (("set", "n", ONE),), second))
            self.reject(nested_ifs(19, (("set", "n", ONE),), second))
            self.accept(nested_ifs(10, with_expression(nested(8, ONE)), second))
            self.reject(nested_ifs(10, with_expression(nested(9, ONE)), second))

    def test_statements_side_by_side_are_not_deeper(self):
        self.accept(with_expression(nested(18, ONE)) * 10)
        self.reject(with_expression(nested(18, ONE)) * 3 + with_expression(nested(19, ONE)))
        self.reject((SKIP, SKIP) + with_expression(nested(19, ONE)))

    def test_a_value_that_is_far_too_deep(self):
        # Without subTest, which could not show such a value.
        self.assertIs(is_program(with_expression(nested(5000, ONE))), False)
        self.assertIs(is_program(nested_ifs(5000, (SKIP,), False)), False)
        self.assertIs(is_program(nested_ifs(5000, (SKIP,), True)), False)

    def test_a_fault_at_the_greatest_depth(self):
        self.reject(with_expression(nested(18, ("int", True))))
        self.reject(with_expression(nested(18, ("go",))))
        self.reject(nested_ifs(19, (("go",),)))


class ArgumentTest(unittest.TestCase):
    def test_the_argument_is_not_modified(self):
        for value in ([list(SKIP)], (["set", "n", ONE],), (("if", YES, [SKIP], [SKIP]),), list(STATEMENTS)):
            before = copy.deepcopy(value)
            is_program(value)
            self.assertEqual(value, before)


if __name__ == "__main__":
    unittest.main()
