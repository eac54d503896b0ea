"""The tokens of a line of a job text."""

from asifone.limits import GREATEST_NUMBER, MOST_LETTERS

DIGITS = "0123456789"
LETTERS = "abcdefghijklmnopqrstuvwxyzABCDEFGHIJKLMNOPQRSTUVWXYZ"
SYMBOLS = "()*+,-=@|"
RESERVED = (
    "input", "target", "param", "same", "mixed", "seed", "batch", "beta", "point", "rate", "loss", "sample",
    "relu", "sum", "shift", "drop", "take", "join", "embed", "lower", "mat", "matT",
)


class Token:
    """A token: its kind, its text and its column.

    The kinds are number, great (a number that is too great), malformed number, name, reserved,
    malformed name, symbol, other, end, and excess (the 41st token of an expression). Numbers
    have their text without leading zeros; the text of the last two kinds is empty.
    """

    def __init__(self, kind, text, column):
        self.kind = kind
        self.text = text
        self.column = column


def tokens_of(line):
    """The list of the tokens of a line, the end of the line included."""
    border = _comment_start(line)
    tokens = []
    at = 0
    while at < border:
        end = _token_end(line, at, border)
        if line[at] != " ":
            tokens.append(_token_of(line[at:end], at + 1))
        at = end
    tokens.append(Token("end", "", border + 1))
    return tokens


def comment_of(line):
    """The comment of a line with its number sign, or the empty string."""
    return line[_comment_start(line):]


def _comment_start(line):
    start = line.find("#")
    return len(line) if start < 0 else start


def _is_run_character(character):
    return character in LETTERS or character in DIGITS or character == "_"


def _token_end(line, at, border):
    end = at + 1
    if _is_run_character(line[at]):
        while end < border and _is_run_character(line[end]):
            end += 1
    return end


def _token_of(text, column):
    if text[0] in DIGITS:
        return _number_token(text, column)
    if _is_run_character(text[0]):
        return Token(_kind_of_word(text), text, column)
    return Token("symbol" if text in SYMBOLS else "other", text, column)


def _number_token(text, column):
    if not all([character in DIGITS for character in text]):
        return Token("malformed number", text, column)
    digits = text.lstrip("0")
    if digits == "":
        return Token("number", "0", column)
    # The length is asked first, because Python refuses to read thousands of digits.
    if len(digits) > len(str(GREATEST_NUMBER)) or int(digits) > GREATEST_NUMBER:
        return Token("great", digits, column)
    return Token("number", digits, column)


def _kind_of_word(text):
    if text[0] == "_" or len(text) > MOST_LETTERS:
        return "malformed name"
    return "reserved" if text in RESERVED else "name"
