"""Texts parted into tokens, and the reader that hands these out in order.

A token is a pair: its kind, and what it tells. Each sign and each of the words
if, then and else is a kind of its own; the other kinds are small, great and
number, and end, which stands behind a text's last token.
"""

SMALL_LETTERS = "abcdefghijklmnopqrstuvwxyz"
GREAT_LETTERS = "ABCDEFGHIJKLMNOPQRSTUVWXYZ"
DIGITS = "0123456789"
WORDS = ("if", "then", "else")
BLANKS = (32, 10)
LONGEST_NAME = 12
LONGEST_NUMBER = 18

# The byte 37 goes by what it does in an expression: its sign may stand in no text of this program.
SIGNS = {
    59: ";", 58: ":", 123: "{", 125: "}", 40: "(", 41: ")", 91: "[", 93: "]",
    44: ",", 46: ".", 61: "=", 60: "<", 62: ">", 43: "+", 45: "-", 42: "*",
    47: "/", 37: "remainder", 38: "&", 124: "|", 33: "!", 63: "?", 35: "#",
}


class Unreadable(Exception):
    """A text, or what it says, isn't what it is read as."""


def is_digit(byte):
    return 48 <= byte <= 57


def is_letter(byte):
    return 65 <= byte <= 90 or 97 <= byte <= 122


def sign_of(byte):
    """The letter or the digit that the byte is."""
    if is_digit(byte):
        return DIGITS[byte - 48]
    if byte <= 90:
        return GREAT_LETTERS[byte - 65]
    return SMALL_LETTERS[byte - 97]


def name_end(text, place):
    """The place behind the letters and digits that begin at this place."""
    end = place
    while end < len(text) and (is_letter(text[end]) or is_digit(text[end])):
        end += 1
    if end - place > LONGEST_NAME:
        raise Unreadable()
    return end


def number_end(text, place):
    """The place behind the digits that begin at this place."""
    end = place
    while end < len(text) and is_digit(text[end]):
        end += 1
    if end - place > LONGEST_NUMBER:
        raise Unreadable()
    return end


def token_end(text, place):
    """The place behind the token that begins at this place."""
    byte = text[place]
    if is_letter(byte):
        return name_end(text, place)
    if is_digit(byte):
        return number_end(text, place)
    if byte in SIGNS:
        return place + 1
    raise Unreadable()


def token_of(piece):
    """The token that these bytes of a text are."""
    if piece[0] in SIGNS:
        return (SIGNS[piece[0]], None)
    written = "".join([sign_of(byte) for byte in piece])
    if is_digit(piece[0]):
        return ("number", int(written))
    if written in WORDS:
        return (written, None)
    if written[0] in GREAT_LETTERS:
        return ("great", written)
    return ("small", written)


def tokens_of(text):
    """The tokens of the text, and the end behind them."""
    tokens = []
    place = 0
    while place < len(text):
        if text[place] in BLANKS:
            place += 1
        else:
            end = token_end(text, place)
            tokens.append(token_of(text[place:end]))
            place = end
    tokens.append(("end", None))
    return tokens


class Reader:
    """The tokens of a text, and how many of them have been taken."""

    def __init__(self, text):
        self.tokens = tokens_of(text)
        self.taken = 0

    def kind(self):
        """The kind of the token that comes now."""
        return self.tokens[self.taken][0]

    def take(self, kind):
        """What the token that comes now tells, which must be of this kind; it is passed."""
        token = self.tokens[self.taken]
        if token[0] != kind:
            raise Unreadable()
        # The end is never passed, so that there's always a token to look at.
        if kind != "end":
            self.taken += 1
        return token[1]

    def skip(self, kind):
        """Pass the token that comes now if it is of this kind, and tell whether it was."""
        if self.kind() != kind:
            return False
        self.take(kind)
        return True
