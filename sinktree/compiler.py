"""The code of a program."""

from sinktree.checker import check_program
from sinktree.schemas import field_index
from sinktree.trees import OPERANDS, numbers_of, operands_of


def compile_program(schema, program):
    """Return the code of a program, or raise BadProgram if the program is not accepted for the schema."""
    check_program(schema, program)
    return tuple(block_code(schema, program))


def block_code(schema, program):
    """Return the instructions of the statements in order, as a list."""
    code = []
    for statement in program:
        if statement[0] == "set":
            code.extend(expression_code(schema, statement[2]))
            code.append(("store", field_index(schema, statement[1])))
        elif statement[0] == "if":
            code.extend(if_code(schema, statement))
    return code


def if_code(schema, statement):
    """Return the instructions of an if."""
    condition = expression_code(schema, statement[1])
    first = block_code(schema, statement[2])
    second = block_code(schema, statement[3])
    # A false flag skips the first program and also the jump behind it.
    return condition + [("unless", len(first) + 1)] + first + [("jump", len(second))] + second


def expression_code(schema, expression):
    """Return the instructions that push the value of an expression."""
    head = expression[0]
    if head == "field":
        return [("load", field_index(schema, expression[1]))]
    if head == "word":
        return [expression]
    if head not in OPERANDS:
        return [("push", expression[1])]
    code = []
    for operand in operands_of(expression):
        code.extend(expression_code(schema, operand))
    code.append((head,) + numbers_of(expression))
    return code
