"""Schemas, and the records of a schema."""

from sinktree.errors import BadSchema
from sinktree.basics import head_of, is_text, is_within, is_word

LIMIT = 10 ** 18
INTEGER_MOST = 10 ** 9
TEXT_MOST = 40
FIELDS_MOST = 8
WORDS_MOST = 8
RESERVED = (
    "if", "else", "skip", "true", "false", "and", "or", "not", "min", "max", "mod", "pick", "cut", "join",
)


def check_schema(value):
    """Return the value if it is a schema; otherwise raise BadSchema."""
    if not isinstance(value, tuple) or not 1 <= len(value) <= FIELDS_MOST:
        raise BadSchema()
    if not all([is_field(field) for field in value]):
        raise BadSchema()
    names = [name for name, _ in value]
    if len(set(names)) != len(names):
        raise BadSchema()
    return value


def is_field(value):
    """Tell whether the value is a name and a kind."""
    if not isinstance(value, tuple) or len(value) != 2:
        return False
    name, kind = value
    return is_field_name(name) and is_kind(kind)


def is_field_name(value):
    """Tell whether a field may have the value as its name."""
    return is_word(value) and value not in RESERVED


def is_kind(value):
    """Tell whether the value is the kind of a field."""
    head = head_of(value)
    if head == "int":
        return len(value) == 3 and is_range(value[1], value[2])
    if head == "flag":
        return len(value) == 1
    if head == "word":
        return len(value) == 2 and is_choice(value[1])
    return head == "text" and len(value) == 2 and is_within(value[1], 0, TEXT_MOST)


def is_range(low, high):
    """Tell whether the values are the ends of an integer field."""
    return is_within(low, -INTEGER_MOST, INTEGER_MOST) and is_within(high, low, INTEGER_MOST)


def is_choice(words):
    """Tell whether the value is a tuple of different words, neither none nor too many."""
    if not isinstance(words, tuple) or not 1 <= len(words) <= WORDS_MOST:
        return False
    # Only strings are sure to fit into a set, so the words are tested first.
    return all([is_word(word) for word in words]) and len(set(words)) == len(words)


def is_record(schema, value):
    """Tell whether the value is a record of the schema."""
    if not isinstance(value, tuple) or len(value) != len(schema):
        return False
    return all([is_value(kind, worth) for (_, kind), worth in zip(schema, value)])


def is_value(kind, value):
    """Tell whether the value is one of the kind."""
    head = kind[0]
    if head == "int":
        return is_within(value, kind[1], kind[2])
    if head == "flag":
        return isinstance(value, bool)
    if head == "word":
        return isinstance(value, str) and value in kind[1]
    return is_text(value, kind[1])


def default_record(schema):
    """Return the record of the integers nearest to 0, False, the first words and the empty string."""
    return tuple([default_value(kind) for _, kind in schema])


def default_value(kind):
    """Return the value of the kind that stands in the default record."""
    head = kind[0]
    if head == "int":
        return min(max(kind[1], 0), kind[2])
    if head == "flag":
        return False
    if head == "word":
        return kind[1][0]
    return ""


def field_index(schema, name):
    """Return the index of the field with this name, or -1 if there is none."""
    for index, field in enumerate(schema):
        if field[0] == name:
            return index
    return -1
