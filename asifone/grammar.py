"""The grammar of the lines of a job text."""

from asifone.errors import TextError
from asifone.limits import MOST_TOKENS
from asifone.tokens import Token, tokens_of

# What must follow the first word of a statement.
PATTERNS = {
    "input": ("number",),
    "target": ("number",),
    "param": ("name", "number", "number", "fill"),
    "seed": ("numeral",),
    "batch": ("number",),
    "beta": ("numeral",),
    "point": ("number",),
    "rate": ("number", "numeral"),
    "sample": ("numerals", "bar", "numerals"),
    "loss": ("expression",),
}

# How many operands and then how many numbers a function takes.
CALLS = {
    "relu": (1, 0),
    "sum": (1, 0),
    "shift": (1, 1),
    "drop": (1, 1),
    "lower": (1, 1),
    "take": (1, 2),
    "join": (2, 0),
    "mat": (2, 1),
    "matT": (2, 1),
    "embed": (1, 2),
}

MESSAGES = {
    "end": "unexpected end of line",
    "excess": "expression has more than 40 tokens",
    "other": "unexpected character",
    "malformed number": "malformed number",
    "great": "number is greater than 4294967295",
    "malformed name": "malformed name",
}


class Tree:
    """An expression.

    The kinds are number, name, word (input and target), sum (+ and -), product (* and @) and call.
    The text is the number with its minus, the name, the word, the operator or the function; parts
    are the operands, numbers are the number itself or those behind the operands of a call.
    """

    def __init__(self, kind, text, column, parts, numbers):
        self.kind = kind
        self.text = text
        self.column = column
        self.parts = parts
        self.numbers = numbers


class Statement:
    """What a line says: its first word, or = where it gives a name, and what its pattern tells to read.

    The word of an empty line is the empty string.
    """

    def __init__(self, word, column, parts, tokens):
        self.word = word
        self.column = column
        self.parts = parts
        self.tokens = tokens


class Reader:
    """Reads the tokens of a line."""

    def __init__(self, number, tokens):
        self.number = number
        self.tokens = tokens
        self.at = 0

    def seen(self):
        """The token that is next."""
        return self.tokens[self.at]

    def advance(self):
        """Takes the next token."""
        self.at += 1
        return self.tokens[self.at - 1]

    def refuse(self, named):
        """Raises the fault of the next token; named tells whether a reserved word is told as such."""
        token = self.seen()
        message = MESSAGES.get(token.kind, "unexpected token")
        if named and token.kind == "reserved":
            message = "reserved word"
        raise TextError(self.number, token.column, message)

    def take_kind(self, kind, named):
        """Takes a token that must be of this kind."""
        if self.seen().kind != kind:
            self.refuse(named)
        return self.advance()

    def take_text(self, text):
        """Takes a token that must be this symbol."""
        if self.seen().text != text:
            self.refuse(False)
        return self.advance()

    def shorten(self):
        """Marks the 41st of the tokens from here on, unless it is the end of the line."""
        last = self.at + MOST_TOKENS
        if last < len(self.tokens) - 1:
            self.tokens = self.tokens[:last] + [Token("excess", "", self.tokens[last].column)]


def statement_of(number, line):
    """The statement of the line with this number."""
    tokens = tokens_of(line)
    reader = Reader(number, tokens)
    first = tokens[0]
    if first.kind == "end":
        return Statement("", first.column, [], tokens)
    word, pattern = first.text, PATTERNS.get(first.text)
    if first.kind == "name":
        word, pattern = "=", ("name", "equals", "expression")
    elif pattern is None:
        reader.refuse(True)
    else:
        reader.advance()
    parts = [_part(reader, what) for what in pattern]
    reader.take_kind("end", False)
    return Statement(word, first.column, parts, tokens)


def _part(reader, what):
    rule = PARTS[what]
    return rule(reader)


def _number(reader):
    return int(reader.take_kind("number", False).text)


def _numeral(reader):
    if reader.seen().text == "-":
        reader.advance()
        return -_number(reader)
    return _number(reader)


def _numerals(reader):
    numbers = []
    while reader.seen().kind == "number" or reader.seen().text == "-":
        numbers.append(_numeral(reader))
    return numbers


def _name(reader):
    return reader.take_kind("name", True)


def _bar(reader):
    return reader.take_text("|")


def _equals(reader):
    return reader.take_text("=")


def _fill(reader):
    kind = reader.seen().text
    if kind not in ("same", "mixed"):
        reader.refuse(False)
    reader.advance()
    return (kind, _numeral(reader) if kind == "same" else _number(reader))


def _bounded(reader):
    reader.shorten()
    return _expression(reader)


def _expression(reader):
    tree = _term(reader)
    while reader.seen().text in ("+", "-"):
        sign = reader.advance()
        tree = Tree("sum", sign.text, sign.column, [tree, _term(reader)], [])
    return tree


def _term(reader):
    tree = _factor(reader)
    while reader.seen().text in ("*", "@"):
        sign = reader.advance()
        tree = Tree("product", sign.text, sign.column, [tree, _factor(reader)], [])
    return tree


def _factor(reader):
    token = reader.seen()
    if token.kind == "number" or token.text == "-":
        return _number_tree(reader)
    if token.text in CALLS:
        return _call(reader)
    if token.text == "(":
        reader.advance()
        tree = _expression(reader)
        reader.take_text(")")
        return tree
    if token.text in ("input", "target"):
        reader.advance()
        return Tree("word", token.text, token.column, [], [])
    return _name_tree(reader)


def _number_tree(reader):
    token = reader.seen()
    sign = "-" if token.text == "-" else ""
    number = _numeral(reader)
    return Tree("number", f"{sign}{abs(number)}", token.column, [], [number])


def _name_tree(reader):
    token = _name(reader)
    return Tree("name", token.text, token.column, [], [])


def _call(reader):
    word = reader.advance()
    operands, numbers = CALLS[word.text]
    mark = "("
    parts = []
    for _ in range(operands):
        reader.take_text(mark)
        parts.append(_name_tree(reader) if word.text == "embed" else _expression(reader))
        mark = ","
    told = []
    for _ in range(numbers):
        reader.take_text(",")
        told.append(_number(reader))
    reader.take_text(")")
    return Tree("call", word.text, word.column, parts, told)


PARTS = {
    "number": _number,
    "numeral": _numeral,
    "numerals": _numerals,
    "name": _name,
    "bar": _bar,
    "equals": _equals,
    "fill": _fill,
    "expression": _bounded,
}
