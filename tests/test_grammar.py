"""[17] to [21]: lines, tokens, the grammar and its faults."""

import unittest

from asifone.errors import TextError
from asifone.texts import checked, formatted, job_of
from tests.support import EXAMPLE, told

RESERVED = ("input target param same mixed seed batch beta point rate loss sample relu sum shift drop take join embed"
            " lower mat matT").split()
END = "unexpected end of line"
TOKEN = "unexpected token"
WORD = "reserved word"
CHARACTER = "unexpected character"
NAME = "malformed name"
NUMBER = "malformed number"
GREAT = "number is greater than 4294967295"
LONG = "expression has more than 40 tokens"


class Faults(unittest.TestCase):
    def check(self, rows):
        """Each row has a line, a column and a message; the line stands alone, and behind two others."""
        for line, column, message in rows:
            self.assertEqual(checked(line), (1, column, message), line)
            self.assertEqual(checked("# c\n\n" + line + "\nseed _"), (3, column, message), line)
            with self.assertRaises(TextError) as caught:
                formatted(line)
            fault = caught.exception
            self.assertEqual((fault.line, fault.column, fault.message), (1, column, message), line)

    def fits(self, lines):
        for line in lines:
            formatted(line)


class ExampleTest(unittest.TestCase):
    def test_example(self):
        job = job_of(EXAMPLE)
        self.assertEqual(job.net.nodes, [
            ("input",), ("lin", 0, 0), ("shift", 8, 1), ("bias", 1, 2), ("relu", 3),
            ("target",), ("sub", 4, 5), ("mul", 6, 6), ("sum", 7),
        ])
        self.assertEqual(told(job), (
            2, 1, [(2, 1, ("mixed", 24)), (1, 1, ("same", 0))], job.net.nodes, [2, 1, 1, 1, 1, 1, 1, 1, 1],
            0, 2, 0, 0, [(0, 1)], [([3, -1], [2]), ([5, 7], [0])],
        ))
        self.assertIsNone(checked(EXAMPLE))

    def test_examples_of_the_interface(self):
        self.assertEqual(checked("input 2\ntarget 1\nloss x"), (3, 6, "unknown name"))
        self.assertEqual(formatted("  h=shift((input@w),008)*-03#c"), "h = shift(input @ w, 8) * -3 #c")

    def test_job_of_raises(self):
        with self.assertRaises(TextError) as caught:
            job_of("input 2\ntarget 1\nloss x")
        fault = caught.exception
        self.assertEqual((fault.line, fault.column, fault.message), (3, 6, "unknown name"))

    def test_answers_are_new(self):
        one = job_of(EXAMPLE)
        one.data[0][0][0] = 99
        one.net.nodes.pop()
        one.rates.append((1, 1))
        one.net.parameters[0].rows = 5
        self.assertEqual(job_of(EXAMPLE).data[0], ([3, -1], [2]))
        self.assertEqual(len(job_of(EXAMPLE).net.nodes), 9)
        self.assertEqual(job_of(EXAMPLE).rates, [(0, 1)])
        self.assertEqual(job_of(EXAMPLE).net.parameters[0].rows, 2)


class LinesTest(Faults):
    def test_empty_text(self):
        self.assertEqual(checked(""), (1, 1, "input is not declared"))
        self.assertEqual(checked("\n\n"), (3, 1, "input is not declared"))

    def test_spaces_and_comments(self):
        self.fits(["", "   ", "#", "  # _ 9x ! 5000000000", "seed 3#4", "seed 3 # 4 ! % \t"])

    def test_columns(self):
        self.check([
            ("seed", 5, END), ("seed  ", 7, END), ("  seed", 7, END), ("seed#c", 5, END), ("seed   # c", 8, END),
            ("    _", 5, NAME), ("a=_", 3, NAME), ("a   =    _", 10, NAME),
        ])

    def test_spaces_mean_nothing_else(self):
        self.fits(["a=b+c", "a = b + c", "  a  =  b  +  c  ", "a=take(b,0,1)", "a = take ( b , 0 , 1 )", "sample 1|2",
                   "sample 1-2|-3"])

    def test_capital_letters_differ(self):
        self.fits(["Loss = Input", "MATT = a", "Relu = mat(a, b, 2)"])
        self.check([("matT = a", 1, WORD), ("a = matt(b, c, 2)", 9, TOKEN), ("Loss a", 6, TOKEN)])


class TokensTest(Faults):
    def test_numbers(self):
        self.fits(["seed 0", "seed 4294967295", "seed 00000000000004294967295", "seed -4294967295"])
        self.fits(["seed " + "0" * 6000, "seed " + "0" * 6000 + "4294967295"])
        self.check([
            ("seed 4294967296", 6, GREAT), ("seed -4294967296", 7, GREAT), ("seed 0004294967296", 6, GREAT),
            ("seed " + "9" * 6000, 6, GREAT), ("seed 10000000000", 6, GREAT), ("4294967296", 1, GREAT),
            ("a = b 4294967296", 7, GREAT),
        ])

    def test_malformed_numbers(self):
        self.check([
            ("seed 3x", 6, NUMBER), ("seed 3_", 6, NUMBER), ("seed 0x10", 6, NUMBER), ("seed 1e5", 6, NUMBER),
            ("seed 99999999999a", 6, NUMBER), ("3x", 1, NUMBER), ("a = 12345678901234b", 5, NUMBER),
        ])

    def test_names(self):
        self.fits(["a = b", "abcdefghijkl = b", "Z9_ = a_b_", "a1234567890_ = b"])
        self.check([
            ("abcdefghijklm = b", 1, NAME), ("a = abcdefghijklm", 5, NAME), ("_a = b", 1, NAME), ("a = _", 5, NAME),
            ("a = _9", 5, NAME), ("seed inputinputinput", 6, NAME), ("a = b abcdefghijklm", 7, NAME),
        ])

    def test_other_characters(self):
        for character in "!\"$%&'./:;<>?[\\]^`{}~":
            self.check([
                (f"{character}", 1, CHARACTER), (f"a = b {character} c", 7, CHARACTER),
                (f"seed {character}", 6, CHARACTER), (f"a = b{character}c", 6, CHARACTER),
            ])

    def test_runs_end_at_other_characters(self):
        self.check([("a.b = c", 2, CHARACTER), ("a = 3.5", 6, CHARACTER), ("a = 3-4x", 7, NUMBER)])


class StatementsTest(Faults):
    def test_statements(self):
        self.fits([
            "input 9", "target 0", "param a 0 9 same -5", "param a 1 2 mixed 99", "seed -0", "batch 7", "beta -7",
            "point 77", "rate 3 -4", "sample |", "sample 1 -2 3 | -4", "a = b", "loss b", "loss -3",
        ])

    def test_line_starts(self):
        for word in RESERVED:
            if word not in ("input", "target", "param", "seed", "batch", "beta", "point", "rate", "loss", "sample"):
                self.check([(word, 1, WORD), (f" {word} = 3", 2, WORD)])
        self.check([(sign, 1, TOKEN) for sign in "()*+,-=@|"] + [("7 = a", 1, TOKEN)])

    def test_settings(self):
        for word in ("input", "target", "batch", "point"):
            at = len(word) + 2
            self.check([
                (word, at - 1, END), (f"{word} -3", at, TOKEN), (f"{word} a", at, TOKEN), (f"{word} relu", at, TOKEN),
                (f"{word} 3 4", at + 2, TOKEN), (f"{word} 3 input", at + 2, TOKEN), (f"{word} = a", at, TOKEN),
            ])
        for word in ("seed", "beta"):
            self.check([
                (word, 5, END), (f"{word} -", 7, END), (f"{word} - -3", 8, TOKEN), (f"{word} -a", 7, TOKEN),
                (f"{word} -sum", 7, TOKEN), (f"{word} sum", 6, TOKEN), (f"{word} +3", 6, TOKEN),
                (f"{word} 3-", 7, TOKEN), (f"{word} (3)", 6, TOKEN),
            ])

    def test_rate(self):
        self.check([
            ("rate", 5, END), ("rate 3", 7, END), ("rate -3 4", 6, TOKEN), ("rate 3 a", 8, TOKEN),
            ("rate 3 4 5", 10, TOKEN), ("rate 3, 4", 7, TOKEN), ("rate loss 4", 6, TOKEN),
        ])

    def test_param(self):
        self.check([
            ("param", 6, END), ("param a", 8, END), ("param a 1", 10, END), ("param a 1 2", 12, END),
            ("param a 1 2 same", 17, END), ("param a 1 2 same -", 19, END), ("param a 1 2 mixed", 18, END),
            ("param 3", 7, TOKEN), ("param -", 7, TOKEN), ("param input", 7, WORD), ("param same 1 2", 7, WORD),
            ("param a b", 9, TOKEN), ("param a sum", 9, TOKEN), ("param a -1", 9, TOKEN), ("param a 1 x", 11, TOKEN),
            ("param a 1 2 3", 13, TOKEN), ("param a 1 2 x", 13, TOKEN), ("param a 1 2 relu", 13, TOKEN),
            ("param a 1 2 mixed -3", 19, TOKEN), ("param a 1 2 same 3 4", 20, TOKEN), ("param a = 3", 9, TOKEN),
            ("param a 1 2 mixed same", 19, TOKEN), ("param _a 1 2 same 3", 7, NAME),
        ])

    def test_sample(self):
        self.check([
            ("sample", 7, END), ("sample 1 2", 11, END), ("sample -", 9, END), ("sample 1 | -", 13, END),
            ("sample 1 | 2 | 3", 14, TOKEN), ("sample a | 2", 8, TOKEN), ("sample 1, 2 | 3", 9, TOKEN),
            ("sample -a | 2", 9, TOKEN), ("sample 1 | sum", 12, TOKEN), ("sample 1 + 2 | 3", 10, TOKEN),
            ("sample | - | 2", 12, TOKEN),
        ])

    def test_naming_and_loss(self):
        self.check([
            ("a", 2, END), ("a =", 4, END), ("a b", 3, TOKEN), ("a loss", 3, TOKEN), ("a 3", 3, TOKEN),
            ("a = b = c", 7, TOKEN), ("a = = b", 5, TOKEN), ("loss", 5, END), ("loss = a", 6, TOKEN),
            ("loss a b", 8, TOKEN), ("a = b loss", 7, TOKEN), ("a = b | c", 7, TOKEN),
        ])


class ExpressionsTest(Faults):
    def test_expressions(self):
        self.fits([
            "a = -3", "a = - 3", "a = b - 3", "a = b - -3", "a = b--3", "a = (b)", "a = ((b + c)) * (d)",
            "a = b @ c @ d", "a = b * -3 * c", "a = input + target", "a = relu(b)", "a = sum(b + c)",
            "a = shift(b, 3)", "a = drop(b * c, 3)", "a = lower(b, 3)", "a = take(b, 0, 3)", "a = join(b, c)",
            "a = mat(b, c, 3)", "a = matT(b, (c), 3)", "a = embed(b, 0, 3)", "a = take(relu(sum(3)), 1, 2)",
        ])

    def test_factors(self):
        self.check([
            ("a = b +", 8, END), ("a = b *", 8, END), ("a = -", 6, END), ("a = (", 6, END), ("a = (b", 7, END),
            ("a = b + * c", 9, TOKEN), ("a = + b", 5, TOKEN), ("a = * b", 5, TOKEN), ("a = )", 5, TOKEN),
            ("a = ()", 6, TOKEN), ("a = b)", 6, TOKEN), ("a = (b))", 8, TOKEN), ("a = b c", 7, TOKEN),
            ("a = b 3", 7, TOKEN), ("a = 3 b", 7, TOKEN), ("a = b(c)", 6, TOKEN), ("a = b, c", 6, TOKEN),
            ("a = (b, c)", 7, TOKEN), ("a = (b 3)", 8, TOKEN),
        ])

    def test_minus(self):
        self.check([
            ("a = -b", 6, TOKEN), ("a = - - 3", 7, TOKEN), ("a = -(3)", 6, TOKEN), ("a = -relu(b)", 6, TOKEN),
            ("a = -loss", 6, TOKEN), ("a = b - -c", 10, TOKEN), ("a = b - - sum", 11, TOKEN),
            ("a = b - - -3", 11, TOKEN),
            ("a = b - loss", 9, WORD), ("a = -_", 6, NAME), ("a = -!", 6, CHARACTER),
        ])

    def test_reserved_words(self):
        functions = ("relu", "sum", "shift", "drop", "take", "join", "embed", "lower", "mat", "matT")
        for word in RESERVED:
            if word in functions:
                at = 6 + len(word)
                self.check([
                    (f"a = {word} b", at, TOKEN), (f"a = {word}", at - 1, END), (f"a = {word} {word}", at, TOKEN),
                ])
            elif word not in ("input", "target"):
                self.check([
                    (f"a = {word}", 5, WORD), (f"a = b + {word}", 9, WORD), (f"a = b @ {word}", 9, WORD),
                    (f"a = ({word}", 6, WORD), (f"a = sum({word})", 9, WORD), (f"a = join(b, {word})", 13, WORD),
                    (f"loss {word}", 6, WORD),
                ])
            self.check([(f"a = b {word}", 7, TOKEN), (f"a = (b) {word}", 9, TOKEN)])
            if word != "input":
                self.check([(f"a = input {word}", 11, TOKEN)])

    def test_calls(self):
        self.check([
            ("a = relu()", 10, TOKEN), ("a = relu(b, 3)", 11, TOKEN), ("a = relu(b", 11, END),
            ("a = sum(b) c", 12, TOKEN), ("a = shift(b)", 12, TOKEN), ("a = shift(b, c)", 14, TOKEN),
            ("a = shift(b, -3)", 14, TOKEN), ("a = shift(b, sum)", 14, TOKEN), ("a = shift(b, (3))", 14, TOKEN),
            ("a = shift(b, 3, 4)", 15, TOKEN), ("a = drop(, 3)", 10, TOKEN), ("a = drop(b 3)", 12, TOKEN),
            ("a = lower(b, 3", 15, END), ("a = take(b, 3)", 14, TOKEN), ("a = take(b, 3, 4, 5)", 17, TOKEN),
            ("a = take(b, 3, )", 16, TOKEN), ("a = join(b)", 11, TOKEN), ("a = join(b, c, 3)", 14, TOKEN),
            ("a = join(b c)", 12, TOKEN), ("a = mat(b, 3)", 13, TOKEN), ("a = mat(b, c)", 13, TOKEN),
            ("a = matT(b, c, d)", 16, TOKEN), ("a = matT(b, c, 3 + 4)", 18, TOKEN), ("a = mat(b, c, 3) d", 18, TOKEN),
        ])

    def test_embed(self):
        self.check([
            ("a = embed(3, 0, 1)", 11, TOKEN), ("a = embed(-3, 0, 1)", 11, TOKEN), ("a = embed((b), 0, 1)", 11, TOKEN),
            ("a = embed(input, 0, 1)", 11, WORD), ("a = embed(relu, 0, 1)", 11, WORD),
            ("a = embed(b + c, 0)", 13, TOKEN),
            ("a = embed(b, 0)", 15, TOKEN), ("a = embed(b, c, 1)", 14, TOKEN), ("a = embed(b)", 12, TOKEN),
            ("a = embed(b, 0, 1, 2)", 18, TOKEN), ("a = embed(", 11, END), ("a = embed(_b, 0, 1)", 11, NAME),
        ])


class LimitTest(Faults):
    def test_forty_tokens(self):
        forty = " + ".join(["b"] * 19) + " - -3"
        self.assertEqual(len(forty.split()) + 1, 40)
        self.fits([f"a = {forty}", f"loss {forty}", f"a={forty}# c", f"a = {forty}    "])

    def test_the_token_behind_them(self):
        forty = " + ".join(["b"] * 19) + " - -3"
        for text in ("+", "b", "7", "loss", "_", "!", "3x", "4294967296", ")", "abcdefghijklm", "+ b", "! ! !"):
            self.check([(f"a = {forty} {text}", len(forty) + 6, LONG), (f"loss {forty} {text}", len(forty) + 7, LONG)])

    def test_forty_tokens_that_are_not_complete(self):
        forty = " + ".join(["b"] * 20) + " +"
        self.assertEqual(len(forty.split()), 40)
        self.check([
            (f"a = {forty}", len(forty) + 5, END), (f"a = {forty} # c", len(forty) + 6, END),
            (f"a = {forty} b", len(forty) + 6, LONG), (f"a = {forty} loss", len(forty) + 6, LONG),
        ])

    def test_parentheses_count(self):
        self.fits(["a = " + "(" * 19 + "b" + ")" * 19, "a = " + "relu(" * 13 + "b" + ")" * 13])
        self.check([
            ("a = " + "(" * 20 + "b" + ")" * 20, 45, LONG), ("a = " + "(" * 40, 45, END), ("a = " + "(" * 41, 45, LONG),
            ("a = " + "(" * 1000, 45, LONG), ("a = " + "relu(" * 20, 105, END), ("a = " + "relu(" * 21, 105, LONG),
        ])

    def test_a_fault_before_the_limit_comes_first(self):
        line = "a = b + + " + " + ".join(["b"] * 30)
        self.check([(line, 9, TOKEN)])

    def test_only_expressions_are_limited(self):
        self.fits(["sample " + "1 " * 50 + "|" + " 2" * 50])
