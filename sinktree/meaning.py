"""What a program does to a record."""

from sinktree.operators import operator_value
from sinktree.schemas import field_index
from sinktree.trees import OPERANDS, numbers_of, operands_of


def evaluate(schema, program, record):
    """Return the values of the fields after the program; the program is well formed for the schema."""
    values = list(record)
    run_block(schema, program, values)
    return tuple(values)


def run_block(schema, program, values):
    """Run the statements from left to right on the list of the fields' values."""
    for statement in program:
        if statement[0] == "set":
            values[field_index(schema, statement[1])] = value_of(schema, statement[2], values)
        elif statement[0] == "if":
            chosen = 2 if value_of(schema, statement[1], values) else 3
            run_block(schema, statement[chosen], values)


def value_of(schema, expression, values):
    """Return the value of an expression for the fields' values."""
    head = expression[0]
    if head == "field":
        return values[field_index(schema, expression[1])]
    if head not in OPERANDS:
        return expression[1]
    worths = [value_of(schema, operand, values) for operand in operands_of(expression)]
    return operator_value(head, worths + list(numbers_of(expression)))
