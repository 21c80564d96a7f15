"""The tokens of the text of a program (point 111)."""

from sinktree.basics import is_printable
from sinktree.decimals import digits_end, is_digit
from sinktree.errors import BadText

SIGNS = "=;{}(),+-*/<"


class Scanner:
    """A place in a text, from which one token after the other is read.

    A token is a tuple (form, raw, start): the form is "name", "number", "word", "text", "sign" or "end", raw is the
    text of the token, and start is its index. The end of the text is a token with an empty raw text.
    """

    def __init__(self, text):
        self.text = text
        self.place = 0

    def peek(self):
        """Return the next token, or raise BadText if none can stand there; the place stays."""
        return token_at(self.text, spaces_end(self.text, self.place))

    def take(self):
        """Return the next token and go on behind it."""
        token = self.peek()
        self.place = token[2] + len(token[1])
        return token

    def follows(self, raw):
        """Tell whether this token is next, and if so, go on behind it."""
        if self.peek()[1] != raw:
            return False
        self.take()
        return True

    def expect(self, raw):
        """Go on behind this token, which must be next."""
        token = self.take()
        if token[1] != raw:
            raise BadText(token[2])


def spaces_end(text, place):
    """Return the index of the first character from the place on that is no space."""
    while place < len(text) and text[place] == " ":
        place += 1
    return place


def token_at(text, start):
    """Return the token that begins at this index."""
    if start == len(text):
        return ("end", "", start)
    first = text[start]
    if is_letter(first):
        return ("name", text[start:letters_end(text, start)], start)
    if is_digit(first):
        return ("number", text[start:digits_end(text, start)], start)
    if first == '"':
        return ("text", text[start:quote_end(text, start)], start)
    if first == "'":
        return word_at(text, start)
    if text[start:start + 2] == "==":
        return ("sign", "==", start)
    if first in SIGNS:
        return ("sign", first, start)
    raise BadText(start)


def word_at(text, start):
    """Return the word whose ' stands at this index."""
    end = letters_end(text, start + 1)
    # A ' without a letter begins no token.
    if end == start + 1:
        raise BadText(start)
    return ("word", text[start:end], start)


def is_letter(letter):
    """Tell whether the character is one from a to z."""
    return "a" <= letter <= "z"


def letters_end(text, place):
    """Return the index behind the longest run of letters from the place on."""
    while place < len(text) and is_letter(text[place]):
        place += 1
    return place


def quote_end(text, start):
    """Return the index behind the text in quotes that begins at this index."""
    place = start + 1
    while place < len(text) and text[place] != '"':
        if not is_printable(text[place]) or text[place] == "\\":
            raise BadText(place)
        place += 1
    if place == len(text):
        raise BadText(place)
    return place + 1
