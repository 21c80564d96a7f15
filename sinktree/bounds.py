"""The bounds of values (point 107), for the checker and for the judge.

Bounds are a tuple that begins with the kind: ("int", least, greatest), ("flag",), ("word", words in ascending order)
or ("text", greatest length).
"""

from sinktree.schemas import LIMIT

LENGTH_MOST = 200


def kind_bounds(kind):
    """Return the bounds of the values of a field's kind."""
    if kind[0] == "word":
        return ("word", tuple(sorted(kind[1])))
    return kind


def value_bounds(value):
    """Return the bounds of an integer, a flag or a text."""
    if isinstance(value, bool):
        return ("flag",)
    if isinstance(value, int):
        return ("int", value, value)
    return ("text", len(value))


def have_kinds(head, operands):
    """Tell whether the operator takes operands with these bounds."""
    kinds = [bounds[0] for bounds in operands]
    if head == "pick":
        return kinds[0] == "flag" and kinds[1] == kinds[2]
    if head == "same":
        return kinds[0] == kinds[1]
    return all([kind == operand_kind(head) for kind in kinds])


def operand_kind(head):
    """Return the kind of all operands of an operator whose operands have one certain kind."""
    if head in ("not", "and", "or"):
        return "flag"
    if head in ("cut", "join"):
        return "text"
    return "int"


def operator_bounds(head, operands, numbers):
    """Return the bounds of an operator for operands of the right kinds and the numbers behind them."""
    if head in ("less", "same", "not", "and", "or"):
        return ("flag",)
    if head == "pick":
        return union(operands[1], operands[2])
    if head == "cut":
        return ("text", min(operands[0][1], numbers[0]))
    if head == "join":
        return ("text", operands[0][1] + operands[1][1])
    if head in ("div", "mod"):
        return quotient_bounds(head, operands[0], numbers[0])
    return integer_bounds(head, operands[0], operands[1])


def union(first, second):
    """Return the least bounds that contain two bounds of one kind."""
    if first[0] == "int":
        return ("int", min(first[1], second[1]), max(first[2], second[2]))
    if first[0] == "word":
        return ("word", tuple(sorted(set(first[1] + second[1]))))
    if first[0] == "text":
        return ("text", max(first[1], second[1]))
    return first


def quotient_bounds(head, bounds, divisor):
    """Return the bounds of the quotient or of the remainder of an integer."""
    _, least, greatest = bounds
    if head == "div":
        return ("int", least // divisor, greatest // divisor)
    if 0 <= least and greatest < divisor:
        return bounds
    return ("int", 0, divisor - 1)


def integer_bounds(head, first, second):
    """Return the bounds of an operator that makes one integer of two."""
    _, low, high = first
    _, least, greatest = second
    if head == "add":
        return ("int", low + least, high + greatest)
    if head == "sub":
        return ("int", low - greatest, high - least)
    if head == "mul":
        products = (low * least, low * greatest, high * least, high * greatest)
        return ("int", min(products), max(products))
    if head == "min":
        return ("int", min(low, least), min(high, greatest))
    return ("int", max(low, least), max(high, greatest))


def is_large(bounds):
    """Tell whether an integer or a text with these bounds may be out of the limits."""
    if bounds[0] == "int":
        return bounds[1] < -LIMIT or bounds[2] > LIMIT
    return bounds[0] == "text" and bounds[1] > LENGTH_MOST


def lies_within(bounds, kind):
    """Tell whether all values with these bounds are values of a field's kind; the kinds are the same."""
    if bounds[0] == "int":
        return kind[1] <= bounds[1] and bounds[2] <= kind[2]
    if bounds[0] == "word":
        return all([word in kind[1] for word in bounds[1]])
    return bounds[0] == "flag" or bounds[1] <= kind[1]
