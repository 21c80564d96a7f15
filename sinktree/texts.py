"""Plain values and their texts (points 200 to 202)."""

from sinktree.basics import are_printable, is_within
from sinktree.decimals import digits_end, is_decimal, is_signed_decimal
from sinktree.errors import BadText

DIGITS_MOST = 20
INTEGER_MOST = 10 ** 20 - 1
DEPTH_MOST = 12
SINGLE = {"n": None, "y": True, "z": False}


def encode(value):
    """Return the text of a plain value, or raise BadText if the value is not plain."""
    return text_of(value, 0)


def text_of(value, depth):
    """Return the text of a value that stands within so many tuples."""
    if value is None:
        return "n"
    if isinstance(value, bool):
        return "y" if value else "z"
    if is_within(value, -INTEGER_MOST, INTEGER_MOST):
        return f"i{value};"
    if isinstance(value, str) and are_printable(value):
        return f"s{len(value)}:{value}"
    if isinstance(value, tuple) and depth < DEPTH_MOST:
        return f"t{len(value)}:" + "".join([text_of(item, depth + 1) for item in value])
    raise BadText(0)


def decode(text):
    """Return the plain value with this text, or raise BadText if there is none."""
    if not isinstance(text, str):
        raise BadText(0)
    value, end = value_at(text, 0, 0)
    if end != len(text):
        raise BadText(0)
    return value


def value_at(text, place, depth):
    """Return the value whose text begins at this place, within so many tuples, and the place behind its text."""
    head = text[place:place + 1]
    if head in SINGLE:
        return SINGLE[head], place + 1
    if head == "i":
        return integer_at(text, place + 1)
    if head == "s":
        return string_at(text, place + 1)
    if head == "t" and depth < DEPTH_MOST:
        return tuple_at(text, place + 1, depth + 1)
    raise BadText(0)


def integer_at(text, place):
    """Return the integer whose digits, or the sign before them, begin at this place, and the place behind it."""
    digits = place + 1 if text[place:place + 1] == "-" else place
    end = digits_end(text, digits)
    raw = text[place:end]
    if end - digits > DIGITS_MOST or not is_signed_decimal(raw) or text[end:end + 1] != ";":
        raise BadText(0)
    return int(raw), end + 1


def count_at(text, place):
    """Return the number before the colon, whose digits begin at this place, and the place behind the colon."""
    end = digits_end(text, place)
    raw = text[place:end]
    # Python refuses to read very many digits; a number with more of them than the length of the text is too great.
    if end - place > len(str(len(text))) or not is_decimal(raw) or text[end:end + 1] != ":":
        raise BadText(0)
    return int(raw), end + 1


def string_at(text, place):
    """Return the string whose length begins at this place, and the place behind it."""
    many, start = count_at(text, place)
    value = text[start:start + many]
    if len(value) < many or not are_printable(value):
        raise BadText(0)
    return value, start + many


def tuple_at(text, place, depth):
    """Return the tuple of this depth whose number of items begins at this place, and the place behind it."""
    many, end = count_at(text, place)
    items = []
    for _ in range(many):
        item, end = value_at(text, end, depth)
        items.append(item)
    return tuple(items), end
