"""The text of a program: written, and read again."""

from sinktree.basics import is_word
from sinktree.decimals import is_signed_decimal
from sinktree.errors import BadText
from sinktree.schemas import INTEGER_MOST, TEXT_MOST, is_field_name
from sinktree.tokens import Scanner
from sinktree.trees import DEPTH_MOST, NUMBERS, OPERANDS, is_program, numbers_of, operands_of

LENGTH_MOST = 2000
DIGITS_MOST = 10

# The operators that stand between their operands, and those that are written as functions.
SIGNS = {
    "add": "+", "sub": "-", "mul": "*", "less": "<", "same": "==", "and": "and", "or": "or", "div": "/", "mod": "mod",
}
FUNCTIONS = ("min", "max", "join", "pick", "cut")


def program_text(program):
    """Return the text of a program."""
    return "; ".join([statement_text(statement) for statement in program])


def statement_text(statement):
    """Return the text of a statement."""
    if statement[0] == "set":
        return f"{statement[1]} = {expression_text(statement[2])}"
    if statement[0] == "if":
        _, condition, first, second = statement
        return "if " + expression_text(condition) + block_text(first) + " else" + block_text(second)
    return "skip"


def block_text(program):
    """Return the text of a program in braces, with a space before it."""
    return " { " + program_text(program) + " }"


def expression_text(expression):
    """Return the text of an expression."""
    head = expression[0]
    if head not in OPERANDS:
        return plain_text(head, expression[1])
    parts = [expression_text(operand) for operand in operands_of(expression)]
    parts.extend([str(number) for number in numbers_of(expression)])
    if head == "not":
        return f"(not {parts[0]})"
    if head in SIGNS:
        return f"({parts[0]} {SIGNS[head]} {parts[1]})"
    return head + "(" + ", ".join(parts) + ")"


def plain_text(head, worth):
    """Return the text of an expression without operands."""
    if head == "int":
        return str(worth)
    if head == "flag":
        return "true" if worth else "false"
    if head == "word":
        return "'" + worth
    if head == "text":
        return '"' + worth + '"'
    return worth


def parse_program(text):
    """Return the program with this text, or raise BadText."""
    if not isinstance(text, str) or len(text) > LENGTH_MOST:
        raise BadText(0)
    program = read_block(Scanner(text), 1, "")
    # Of what makes a program, only the number of nodes has not been seen yet.
    if not is_program(program):
        raise BadText(0)
    return program


def read_block(scanner, depth, closing):
    """Return the statements up to the closing token, and go on behind it."""
    statements = [read_statement(scanner, depth)]
    while scanner.follows(";"):
        statements.append(read_statement(scanner, depth))
    scanner.expect(closing)
    return tuple(statements)


def take_node(scanner, depth):
    """Return the token with which a statement or an expression of this depth begins."""
    token = scanner.take()
    if depth > DEPTH_MOST:
        raise BadText(0)
    return token


def read_statement(scanner, depth):
    """Return the statement that begins at the next token."""
    _, raw, start = take_node(scanner, depth)
    if raw == "skip":
        return ("skip",)
    if raw == "if":
        return read_if(scanner, depth)
    if not is_field_name(raw):
        raise BadText(start)
    scanner.expect("=")
    return ("set", raw, read_expression(scanner, depth + 1))


def read_if(scanner, depth):
    """Return the if whose condition begins at the next token."""
    condition = read_expression(scanner, depth + 1)
    scanner.expect("{")
    first = read_block(scanner, depth + 1, "}")
    scanner.expect("else")
    scanner.expect("{")
    return ("if", condition, first, read_block(scanner, depth + 1, "}"))


def read_expression(scanner, depth):
    """Return the expression that begins at the next token."""
    token = take_node(scanner, depth)
    form, raw, start = token
    if raw == "(":
        return read_group(scanner, depth)
    if raw in FUNCTIONS:
        return read_function(scanner, depth, raw)
    if raw in ("true", "false"):
        return ("flag", raw == "true")
    if form == "number" or raw == "-":
        return ("int", number_from(scanner, token, -INTEGER_MOST, INTEGER_MOST))
    if form == "word" and is_word(raw[1:]):
        return ("word", raw[1:])
    if form == "text" and len(raw) <= TEXT_MOST + 2:
        return ("text", raw[1:-1])
    if form == "name" and is_field_name(raw):
        return ("field", raw)
    raise BadText(start)


def read_group(scanner, depth):
    """Return the expression in parentheses; the opening one has been read."""
    if scanner.follows("not"):
        operand = read_expression(scanner, depth + 1)
        scanner.expect(")")
        return ("not", operand)
    left = read_expression(scanner, depth + 1)
    _, raw, start = scanner.take()
    head = operator_of(raw)
    if head == "":
        raise BadText(start)
    right = read_number(scanner, head) if head in NUMBERS else read_expression(scanner, depth + 1)
    scanner.expect(")")
    return (head, left, right)


def operator_of(raw):
    """Return the operator that is written with this token between its operands, or "" if there is none."""
    for head, sign in SIGNS.items():
        if sign == raw:
            return head
    return ""


def read_function(scanner, depth, head):
    """Return the operator that is written as a function; its name has been read."""
    scanner.expect("(")
    parts = [read_expression(scanner, depth + 1)]
    for _ in range(OPERANDS[head] - 1):
        scanner.expect(",")
        parts.append(read_expression(scanner, depth + 1))
    if head in NUMBERS:
        scanner.expect(",")
        parts.append(read_number(scanner, head))
    scanner.expect(")")
    return (head, *parts)


def read_number(scanner, head):
    """Return the number of a div, mod or cut, which begins at the next token."""
    low, high = NUMBERS[head]
    return number_from(scanner, scanner.take(), low, high)


def number_from(scanner, token, low, high):
    """Return the number from low to high whose first token, perhaps the sign, has been read."""
    signed = token[1] == "-"
    if signed:
        token = scanner.take()
    form, raw, start = token
    if form != "number" or not are_digits_right(raw, signed):
        raise BadText(start)
    number = -int(raw) if signed else int(raw)
    if not low <= number <= high:
        raise BadText(start)
    return number


def are_digits_right(raw, signed):
    """Tell whether a number, with or without a sign, may be written with these digits."""
    return is_signed_decimal("-" + raw if signed else raw) and len(raw) <= DIGITS_MOST
