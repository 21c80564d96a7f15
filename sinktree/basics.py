"""Tests that may be asked of any value, whatever it is."""

WORD_MOST = 12


def is_within(value, low, high):
    """Tell whether the value is an integer from low to high."""
    # Python counts True and False as integers; the document does not.
    return isinstance(value, int) and not isinstance(value, bool) and low <= value <= high


def is_word(value):
    """Tell whether the value is a string of 1 to 12 characters from a to z."""
    if not isinstance(value, str) or not 1 <= len(value) <= WORD_MOST:
        return False
    return all(["a" <= letter <= "z" for letter in value])


def is_text(value, most):
    """Tell whether the value is a printable string of at most so many characters."""
    return isinstance(value, str) and len(value) <= most and are_printable(value)


def are_printable(text):
    """Tell whether all characters of a string are printable."""
    return all([is_printable(letter) for letter in text])


def is_printable(letter):
    """Tell whether the character is printable."""
    return " " <= letter <= "~" and ord(letter) != 37


def head_of(value):
    """Return the string with which a tuple begins, or "" if the value is not such a tuple."""
    if isinstance(value, tuple) and value and isinstance(value[0], str):
        return value[0]
    return ""
