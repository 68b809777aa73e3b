"""The tokens of a text."""

from pourparler.errors import Malformed, Oversized

RESERVED = (
    "actor", "and", "become", "bool", "close", "done", "drop", "else", "end", "fail", "fall", "false",
    "hear", "if", "int", "let", "not", "open", "or", "say", "talk", "true",
)
# The longer signs stand first, so that the first one that fits is the longest.
SIGNS = ("==", "<=", "=", "<", "+", "-", "*", "~", ".", ",", ":", ";", "(", ")", "{", "}")
BLANKS = " \t\n"
DIGITS = "0123456789"
LETTERS = "abcdefghijklmnopqrstuvwxyzABCDEFGHIJKLMNOPQRSTUVWXYZ"
NAME_CHARACTERS = "_0123456789abcdefghijklmnopqrstuvwxyzABCDEFGHIJKLMNOPQRSTUVWXYZ"

LONGEST_TEXT = 20000
LONGEST_NAME = 20
LARGEST_NUMBER = 65535
MOST_DIGITS = 5


def tokens(text):
    """Returns the list of all tokens of a text, in order."""
    if len(text) > LONGEST_TEXT:
        raise Oversized("text")
    found = []
    at = after_blanks(text, 0)
    while at < len(text):
        kind, value, after = read_token(text, at)
        found.append((kind, value, at))
        at = after_blanks(text, after)
    return found


def is_name(value):
    """Tells whether a value of any kind is a string that is a name."""
    if not isinstance(value, str) or value in RESERVED:
        return False
    if value == "" or len(value) > LONGEST_NAME:
        return False
    return value[0] in LETTERS and after_run(value, 0, NAME_CHARACTERS) == len(value)


def after_blanks(text, at):
    """Returns the index behind the blanks and comments that begin at an index."""
    while at < len(text) and (text[at] in BLANKS or text[at] == "#"):
        at = after_comment(text, at) if text[at] == "#" else at + 1
    return at


def after_comment(text, at):
    """Returns the index of the newline that ends a comment, or the length of the text."""
    newline = text.find("\n", at)
    return len(text) if newline < 0 else newline


def after_run(text, at, characters):
    """Returns the index behind the run of some characters that begins at an index."""
    while at < len(text) and text[at] in characters:
        at += 1
    return at


def read_token(text, at):
    """Returns the kind of the token at an index, its value, and the index behind it."""
    if text[at] in LETTERS:
        return read_word(text, at)
    if text[at] in DIGITS:
        return read_number(text, at)
    return read_sign(text, at)


def read_word(text, at):
    """Reads the reserved word or the name at an index."""
    after = after_run(text, at, NAME_CHARACTERS)
    word = text[at:after]
    if len(word) > LONGEST_NAME:
        raise Malformed(at)
    return ("word" if word in RESERVED else "name", word, after)


def read_number(text, at):
    """Reads the number at an index."""
    after = after_run(text, at, DIGITS)
    digits = text[at:after]
    # Python refuses to convert a very long number; so many digits are too large or begin with a zero.
    if len(digits) > MOST_DIGITS or int(digits) > LARGEST_NUMBER:
        raise Malformed(at)
    if digits[0] == "0" and len(digits) > 1:
        raise Malformed(at)
    # No digit follows here, so what may follow in a name is a letter or an underscore.
    if after < len(text) and text[after] in NAME_CHARACTERS:
        raise Malformed(at)
    return ("number", int(digits), after)


def read_sign(text, at):
    """Reads the longest sign that fits at an index."""
    for sign in SIGNS:
        if text.startswith(sign, at):
            return ("sign", sign, at + len(sign))
    raise Malformed(at)
