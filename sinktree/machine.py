"""The stack machine: the form of its instructions, and how it runs code."""

from sinktree.basics import head_of, is_text, is_within, is_word
from sinktree.operators import operator_value
from sinktree.schemas import LIMIT, TEXT_MOST
from sinktree.trees import NUMBERS, OPERANDS

CODE_MOST = 400
NUMBER_MOST = 10 ** 9


def is_instruction(value):
    """Tell whether the value has the form of an instruction."""
    head = head_of(value)
    if head == "":
        return False
    if head in OPERANDS and head not in NUMBERS:
        return len(value) == 1
    return len(value) == 2 and may_follow(head, value[1])


def may_follow(head, worth):
    """Tell whether an instruction with this head may have the value behind it."""
    if head == "push":
        return isinstance(worth, bool) or is_within(worth, -LIMIT, LIMIT) or is_text(worth, TEXT_MOST)
    if head == "word":
        return is_word(worth)
    if head in NUMBERS:
        low, high = NUMBERS[head]
        return is_within(worth, low, high)
    return head in ("load", "store", "jump", "unless") and is_within(worth, 0, NUMBER_MOST)


def run(code, record):
    """Return what becomes of a record; the judge accepts the code for the schema of the record."""
    fields = list(record)
    stack = []
    place = 0
    while place < len(code):
        place += 1 + perform(code[place], stack, fields)
    return tuple(fields)


def perform(instruction, stack, fields):
    """Change the stack and the fields as the instruction says; return how many instructions are skipped."""
    head = instruction[0]
    if head == "jump":
        return instruction[1]
    if head == "unless":
        return 0 if stack.pop() else instruction[1]
    if head == "store":
        fields[instruction[1]] = stack.pop()
    elif head == "load":
        stack.append(fields[instruction[1]])
    elif head in ("push", "word"):
        stack.append(instruction[1])
    else:
        operate(instruction, stack)
    return 0


def operate(instruction, stack):
    """Replace the operands of an operator at the end of the stack by its result."""
    head = instruction[0]
    first = len(stack) - OPERANDS[head]
    values = stack[first:] + list(instruction[1:])
    stack[first:] = [operator_value(head, values)]
