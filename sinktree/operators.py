"""The values of operators, for the evaluation of expressions and for the machine."""


def operator_value(head, values):
    """Return the value of an operator for the values of its operands and the number behind them."""
    if head == "not":
        return not values[0]
    if head == "pick":
        return values[1] if values[0] else values[2]
    a, b = values
    if head == "join":
        return a + b
    if head == "cut":
        return a[:b]
    if head in ("less", "same", "and", "or"):
        return flag_value(head, a, b)
    return integer_value(head, a, b)


def flag_value(head, a, b):
    """Return the flag that the operator gives for two values."""
    if head == "less":
        return a < b
    if head == "same":
        return a == b
    if head == "and":
        return a and b
    return a or b


def integer_value(head, a, b):
    """Return the integer that the operator gives for two integers."""
    if head == "add":
        return a + b
    if head == "sub":
        return a - b
    if head == "mul":
        return a * b
    if head == "min":
        return min(a, b)
    if head == "max":
        return max(a, b)
    if head == "div":
        return a // b
    return a % b
