"""The shape of programs: tuples of statements and expressions."""

from sinktree.schemas import INTEGER_MOST, TEXT_MOST, is_field_name
from sinktree.basics import head_of, is_text, is_within, is_word

NODES_MOST = 200
DEPTH_MOST = 20

# How many operands each operator has, and which numbers may stand behind them.
OPERANDS = {
    "add": 2, "sub": 2, "mul": 2, "min": 2, "max": 2, "div": 1, "mod": 1, "less": 2, "same": 2,
    "not": 1, "and": 2, "or": 2, "pick": 3, "cut": 1, "join": 2,
}
NUMBERS = {"div": (1, 10 ** 9), "mod": (1, 10 ** 9), "cut": (0, 40)}


def is_program(value):
    """Tell whether the value has the shape of a program and is neither too large nor too deep."""
    if not is_block(value):
        return False
    statements = list(value)
    expressions = []
    nodes = 0
    # Going down level by level leaves a value early that is far too large or too deep.
    for _ in range(DEPTH_MOST):
        nodes += len(statements) + len(expressions)
        if nodes > NODES_MOST or not are_formed(statements, expressions):
            return False
        expressions = inner_expressions(statements, expressions)
        statements = inner_statements(statements)
    return not statements and not expressions


def are_formed(statements, expressions):
    """Tell whether each value has the form of a statement or an expression, whatever stands in it."""
    if not all([is_statement(statement) for statement in statements]):
        return False
    return all([is_expression(expression) for expression in expressions])


def inner_expressions(statements, expressions):
    """Return the expressions that stand directly in these statements and expressions."""
    inner = []
    for statement in statements:
        inner.extend(list(expressions_of(statement)))
    for expression in expressions:
        inner.extend(list(operands_of(expression)))
    return inner


def inner_statements(statements):
    """Return the statements that stand directly in these statements."""
    return [inner for statement in statements for inner in statements_of(statement)]


def is_block(value):
    """Tell whether the value is a tuple of at least one item."""
    return isinstance(value, tuple) and len(value) > 0


def is_statement(value):
    """Tell whether the value has the form of a statement, whatever stands in it."""
    head = head_of(value)
    if head == "set":
        return len(value) == 3 and is_field_name(value[1])
    if head == "if":
        return len(value) == 4 and is_block(value[2]) and is_block(value[3])
    return head == "skip" and len(value) == 1


def expressions_of(statement):
    """Return the expressions that stand directly in a statement."""
    if statement[0] == "set":
        return statement[2:]
    return statement[1:2]


def statements_of(statement):
    """Return the statements that stand directly in a statement."""
    if statement[0] == "if":
        return statement[2] + statement[3]
    return ()


def is_expression(value):
    """Tell whether the value has the form of an expression, whatever stands in it."""
    head = head_of(value)
    if head == "":
        return False
    if head in NUMBERS:
        low, high = NUMBERS[head]
        return len(value) == OPERANDS[head] + 2 and is_within(value[-1], low, high)
    if head in OPERANDS:
        return len(value) == OPERANDS[head] + 1
    return len(value) == 2 and is_plain(head, value[1])


def is_plain(head, worth):
    """Tell whether the head and the value behind it are an expression without operands."""
    if head == "int":
        return is_within(worth, -INTEGER_MOST, INTEGER_MOST)
    if head == "flag":
        return isinstance(worth, bool)
    if head == "word":
        return is_word(worth)
    if head == "text":
        return is_text(worth, TEXT_MOST) and '"' not in worth and "\\" not in worth
    return head == "field" and is_field_name(worth)


def operands_of(expression):
    """Return the operands of an expression."""
    return expression[1:1 + OPERANDS.get(expression[0], 0)]


def numbers_of(expression):
    """Return the numbers that stand behind the operands of an operator: one or none."""
    return expression[1 + OPERANDS[expression[0]]:]
