"""Numbers in decimal digits, as they stand in texts."""


def is_digit(letter):
    """Tell whether the character is a decimal digit."""
    return "0" <= letter <= "9"


def digits_end(text, place):
    """Return the index behind the longest run of digits from the place on."""
    while place < len(text) and is_digit(text[place]):
        place += 1
    return place


def is_decimal(text):
    """Tell whether the text is decimal digits, without a leading zero except for 0."""
    if text == "" or digits_end(text, 0) < len(text):
        return False
    return text == "0" or text[0] != "0"


def is_signed_decimal(text):
    """Tell whether the text is an integer in decimal digits, with a - before them if it is negative."""
    if text.startswith("-"):
        return text != "-0" and is_decimal(text[1:])
    return is_decimal(text)
