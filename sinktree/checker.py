"""Whether a program is accepted for a schema, and the bounds of its expressions."""

from sinktree.bounds import have_kinds, is_large, kind_bounds, lies_within, operator_bounds, value_bounds
from sinktree.errors import BadProgram
from sinktree.schemas import field_index
from sinktree.trees import OPERANDS, is_program, numbers_of, operands_of


def check_program(schema, program):
    """Return None if the program is accepted for the schema; otherwise raise BadProgram."""
    if not is_program(program):
        raise BadProgram("shape")
    check_block(schema, program)


def check_block(schema, program):
    """Check the statements from left to right."""
    for statement in program:
        if statement[0] == "set":
            check_set(schema, statement)
        elif statement[0] == "if":
            check_if(schema, statement)


def check_set(schema, statement):
    """Check the name, then the expression, then whether the field can take its value."""
    _, name, expression = statement
    kind = schema[known_field(schema, name)][1]
    bounds = bounds_of(schema, expression)
    if bounds[0] != kind[0]:
        raise BadProgram("kind")
    if not lies_within(bounds, kind):
        raise BadProgram("range")


def check_if(schema, statement):
    """Check the condition, then the first program, then the second one."""
    _, condition, first, second = statement
    if bounds_of(schema, condition)[0] != "flag":
        raise BadProgram("kind")
    check_block(schema, first)
    check_block(schema, second)


def known_field(schema, name):
    """Return the index of the field with this name."""
    index = field_index(schema, name)
    if index == -1:
        raise BadProgram("field")
    return index


def bounds_of(schema, expression):
    """Return the bounds of an expression, or raise BadProgram for the first fault in it."""
    head = expression[0]
    if head == "field":
        return kind_bounds(schema[known_field(schema, expression[1])][1])
    if head == "word":
        return ("word", expression[1:])
    if head not in OPERANDS:
        return value_bounds(expression[1])
    operands = [bounds_of(schema, operand) for operand in operands_of(expression)]
    if not have_kinds(head, operands):
        raise BadProgram("kind")
    bounds = operator_bounds(head, operands, numbers_of(expression))
    if is_large(bounds):
        raise BadProgram("large")
    return bounds
