"""[22] to [29]: what job texts mean, and the faults of it."""

import unittest

from asifone.texts import checked, job_of
from tests.support import told

BASE = ["input 3", "target 2", "param p 3 2 same 1", "param q 1 3 mixed 4", "param r 2 4 same -7"]
CLOSE = ["loss sum(input)", "sample 1 2 3 | 4 5"]
GOOD = BASE + CLOSE


def text_of(*groups):
    return "\n".join([line for group in groups for line in group])


class Meaning(unittest.TestCase):
    def fault(self, lines, line, column, message):
        self.assertEqual(checked(text_of(lines)), (line, column, message), lines)

    def faults(self, rows, before=BASE):
        """Each row has a line that stands behind the lines before, a column and a message."""
        for row, column, message in rows:
            self.fault([*before, row, *CLOSE], len(before) + 1, column, message)

    def nodes(self, *lines):
        """The nodes of these lines, without the two of the loss."""
        return job_of(text_of(BASE, lines, CLOSE)).net.nodes[:-2]


class OrderTest(Meaning):
    def test_the_first_fault_counts(self):
        self.fault(["input 9", "seed _"], 1, 1, "number must be from 1 to 8")
        self.fault(["seed _", "input 9"], 1, 6, "malformed name")
        self.fault(["input 2", "a = b", "input 3 3"], 2, 5, "unknown name")

    def test_grammar_comes_first_within_a_line(self):
        self.fault(["input 9 9"], 1, 9, "unexpected token")
        self.fault(["a = b + c )"], 1, 11, "unexpected token")

    def test_empty_lines_say_nothing(self):
        self.assertIsNone(checked("\n\n# c\n" + text_of(GOOD).replace("\n", "\n  \n# ! c\n") + "\n"))

    def test_good_text(self):
        self.assertIsNone(checked(text_of(GOOD)))


class SettingsTest(Meaning):
    def test_defaults(self):
        job = job_of(text_of(GOOD))
        self.assertEqual((job.net.inputs, job.net.targets), (3, 2))
        self.assertEqual((job.seed, job.batch, job.factor, job.point, job.rates), (0, 1, 0, 0, []))

    def test_values(self):
        job = job_of(text_of(GOOD, ["seed -5", "batch 4", "beta 77", "point 31", "rate 4294967295 -1", "rate 0 2"]))
        self.assertEqual((job.seed, job.batch, job.factor, job.point), (-5, 4, 77, 31))
        self.assertEqual(job.rates, [(4294967295, -1), (0, 2)])

    def test_numerals_are_reduced(self):
        rows = [("4294967295", -1), ("-4294967295", 1), ("2147483648", -2147483648), ("-2147483648", -2147483648),
                ("-2147483649", 2147483647), ("2147483647", 2147483647), ("-0", 0), ("007", 7)]
        for numeral, word in rows:
            job = job_of(text_of(GOOD, [f"seed {numeral}", f"beta {numeral}", f"rate 5 {numeral}"]))
            self.assertEqual((job.seed, job.factor, job.rates), (word, word, [(5, word)]))

    def test_bounds(self):
        for word, lo, hi in (("input", 1, 8), ("target", 1, 8), ("batch", 1, 4), ("point", 0, 31)):
            message = f"number must be from {lo} to {hi}"
            for number in (hi + 1, 4294967295, *range(lo)):
                self.fault([f"  {word} {number}"], 1, 3, message)
            for number in (lo, hi):
                self.assertNotEqual((checked(f"{word} {number}"))[2], message)

    def test_already_given(self):
        for word in ("input", "target", "seed", "batch", "beta", "point"):
            self.fault([f"{word} 1", "", f" {word} 1"], 3, 2, "already given")
            self.fault([f"{word} 1", f"{word} 99"], 2, 1, "already given")

    def test_any_order(self):
        lines = ["sample 1 2 3 | 4 5"] + CLOSE[:1] + ["batch 2", "seed 1"]
        self.assertIsNone(checked(text_of(BASE[:2], ["a = input"], BASE[2:], lines)))

    def test_rates(self):
        self.assertIsNone(checked(text_of(GOOD, ["rate 0 1"] * 4)))
        self.fault([*GOOD, *["rate 0 1"] * 4, "  rate 0 1"], 12, 3, "more than 4 rates")


class ParametersTest(Meaning):
    def test_parameters(self):
        net = job_of(text_of(GOOD, ["param s 6 1 mixed 31", "param t 1 6 same 4294967295"])).net
        self.assertEqual([(one.rows, one.cols, one.fill) for one in net.parameters], [
            (3, 2, ("same", 1)),
            (1, 3, ("mixed", 4)),
            (2, 4, ("same", -7)),
            (6, 1, ("mixed", 31)),
            (1, 6, ("same", -1)),
        ])

    def test_faults(self):
        self.faults([
            ("param p 1 1 same 0", 7, "name is already used"), ("  param  p 9 9 mixed 99", 10, "name is already used"),
            ("param s 0 1 same 0", 1, "number must be from 1 to 6"),
            ("param s 7 1 same 0", 1, "number must be from 1 to 6"),
            ("param s 1 0 same 0", 1, "number must be from 1 to 6"),
            (" param s 1 7 same 0", 2, "number must be from 1 to 6"),
            ("param s 1 7 mixed 32", 1, "number must be from 1 to 6"),
            ("param s 1 1 mixed 32", 1, "number must be from 0 to 31"),
        ])

    def test_name_of_a_node(self):
        self.faults([("param a 1 1 same 0", 7, "name is already used")], [*BASE, "a = input"])

    def test_more_than_8(self):
        many = [f"param s{at} 1 1 same 0" for at in range(5)]
        self.assertIsNone(checked(text_of(BASE, many, CLOSE)))
        self.faults([
            ("param t 1 1 same 0", 1, "more than 8 parameters"),
            ("param t 1 1 mixed 99", 1, "number must be from 0 to 31"),
            ("param p 1 1 same 0", 7, "name is already used"),
        ], BASE + many)

    def test_after_the_loss(self):
        self.assertIsNone(checked(text_of(GOOD, ["param s 1 1 same 0"])))


class NamingTest(Meaning):
    def test_nodes_and_other_names(self):
        self.assertEqual(self.nodes("a = input", "b = a", "c = a + b"), [("input",), ("add", 0, 0)])
        self.assertEqual(self.nodes("a = input", "b = (((a)))"), [("input",)])

    def test_name_is_already_used(self):
        self.faults([
            ("p = input", 1, "name is already used"), (" a = x", 2, "name is already used"),
            ("a = a", 1, "name is already used"),
        ], [*BASE, "a = input"])

    def test_a_node_is_expected(self):
        self.faults([
            ("a = 3", 5, "a node is expected"),
            ("a =  -3", 6, "a node is expected"),
            ("a = ((p))", 7, "a node is expected"),
            ("a = p", 5, "a node is expected"),
            ("loss 3", 6, "a node is expected"),
            ("loss (q)", 7, "a node is expected"),
        ])

    def test_after_the_loss(self):
        lines = [*BASE, "a = input", "loss sum(a)"]
        for row, column in (("b = a", 1), ("  b = x", 3), ("loss sum(a)", 1), (" loss x", 2), ("b = 3", 1)):
            self.fault([*lines, row], 8, column, "node after the loss")
        self.fault([*lines, "a = x"], 8, 1, "name is already used")

    def test_loss(self):
        lines = [*BASE, "a = input", "b = sum(a)"]
        self.assertIsNone(checked(text_of(lines, ["loss b"], CLOSE[1:])))
        self.assertIsNone(checked(text_of(lines, ["c = b", "loss (c)"], CLOSE[1:])))
        self.fault([*lines, "c = relu(b)", "loss  b"], 9, 7, "loss is not the last node")
        self.fault([*lines, "loss a"], 8, 6, "loss is not the last node")
        self.fault([*lines, "c = relu(a)", "loss a"], 9, 6, "loss is not the last node")
        self.fault([*lines, "loss a + a"], 8, 8, "loss has length 3, expected 1")
        self.fault([*lines, "loss join(b, a)"], 8, 6, "loss has length 4, expected 1")

    def test_an_unknown_name(self):
        self.faults([
            ("a = x", 5, "unknown name"), ("a = a", 5, "unknown name"), ("a = input + (x)", 14, "unknown name"),
            ("a = embed(x, 0, 1)", 11, "unknown name"),
            ("loss sum(x)", 10, "unknown name"),
            ("a = P", 5, "unknown name"),
        ])
        self.fault([*BASE, "a = b", "b = input"], 6, 5, "unknown name")


class SamplesTest(Meaning):
    def test_samples(self):
        data = job_of(text_of(GOOD, ["sample -1 0 4294967295|-2147483649 2147483648"])).data
        self.assertEqual(data, [([1, 2, 3], [4, 5]), ([-1, 0, -1], [2147483647, -2147483648])])

    def test_not_declared(self):
        self.fault(["  sample 1 | 2"], 1, 3, "input is not declared")
        self.fault(["target 1", "sample 1 | 2"], 2, 1, "input is not declared")
        self.fault(["input 1", "sample 1 | 2"], 2, 1, "target is not declared")

    def test_lengths(self):
        self.faults([
            ("sample 1 2 | 4 5", 1, "sample has 2 inputs, expected 3"),
            ("sample 1 2 3 4 | 1", 1, "sample has 4 inputs, expected 3"),
            (" sample | 4 5", 2, "sample has 0 inputs, expected 3"),
            ("sample 1 2 3 | 4", 1, "sample has 1 targets, expected 2"),
            ("sample 1 2 3 |", 1, "sample has 0 targets, expected 2"),
            ("sample 1 | 2", 1, "sample has 1 inputs, expected 3"),
            ("sample 1 2 3 | 4 5 6", 1, "sample has 3 targets, expected 2"),
        ])
        self.fault(["input 1", "target 1", "sample 1 2 | 1"], 3, 1, "sample has 2 inputs, expected 1")

    def test_more_than_12(self):
        lines = GOOD + ["sample 1 2 3 | 4 5"] * 11
        self.assertIsNone(checked(text_of(lines)))
        self.fault([*lines, "sample 1 2 3 | 4 5"], 19, 1, "more than 12 samples")
        self.fault([*lines, "sample 1 2 3 | 4"], 19, 1, "sample has 1 targets, expected 2")


class NodesTest(Meaning):
    def test_sample(self):
        self.assertEqual(self.nodes("a = input", "b = target", "c = input"), [("input",), ("target",), ("input",)])
        self.assertEqual(self.nodes("a = input + input"), [("input",), ("input",), ("add", 0, 1)])

    def test_sums(self):
        self.assertEqual(self.nodes("a = input", "b = a + a", "c = b - a", "d = a + q"), [
            ("input",), ("add", 0, 0), ("sub", 1, 0), ("bias", 1, 0),
        ])

    def test_products(self):
        self.assertEqual(self.nodes("a = input", "b = a * a", "c = a @ p", "d = -3 * a", "e = a * 4294967295"), [
            ("input",), ("mul", 0, 0), ("lin", 0, 0), ("scale", -3, 0), ("scale", -1, 0),
        ])
        self.assertEqual(self.nodes("a = (-4294967295) * input * -0"), [("input",), ("scale", 1, 0), ("scale", 0, 1)])

    def test_functions(self):
        self.assertEqual(self.nodes(
            "a = input", "b = relu(a)", "c = sum(b)", "d = shift(a, 31)", "e = drop(a, 4294967295)", "f = lower(a, 3)",
            "g = take(a, 1, 2)", "h = join(a, g)", "i = mat(a, a, 3)", "j = matT(a, b, 1)", "k = embed(p, 1, 2)",
        ), [
            ("input",), ("relu", 0), ("sum", 1), ("shift", 31, 0), ("drop", 4294967295, 0), ("lower", 3, 0),
            ("take", 1, 2, 0), ("join", 0, 6), ("mat", 3, 0, 0), ("matT", 1, 0, 1), ("embed", 0, 1, 2),
        ])

    def test_order_of_nodes(self):
        self.assertEqual(self.nodes("a = join(relu(input), sum(target))"), [
            ("input",), ("relu", 0), ("target",), ("sum", 2), ("join", 1, 3),
        ])
        self.assertEqual(self.nodes("a = input - input + input * input"), [
            ("input",), ("input",), ("sub", 0, 1), ("input",), ("input",), ("mul", 3, 4), ("add", 2, 5),
        ])
        self.assertEqual(self.nodes("a = input - (input + input)"), [
            ("input",), ("input",), ("input",), ("add", 1, 2), ("sub", 0, 3),
        ])

    def test_a_sample_that_is_not_declared(self):
        self.fault(["a = input"], 1, 5, "input is not declared")
        self.fault(["a = target"], 1, 5, "target is not declared")
        self.fault(["input 1", "a = input + target"], 2, 13, "target is not declared")
        self.fault(["a = target", "target 1"], 1, 5, "target is not declared")

    def test_lengths_differ(self):
        lines = [*BASE, "a = input", "b = target"]
        for sign in "+-*":
            self.faults([
                (f"c = a {sign} b", 7, "lengths 3 and 2 differ"), (f"c = b {sign} (a)", 7, "lengths 2 and 3 differ"),
                (f"c = a {sign} a {sign} b", 11, "lengths 3 and 2 differ"),
            ], lines)

    def test_bias(self):
        self.faults([
            ("c = input + p", 11, "parameter has 3 rows, expected 1"),
            ("c = target + r", 12, "parameter has 2 rows, expected 1"),
            ("c = target + q", 12, "length 2 is not a multiple of 3"),
        ])

    def test_lin(self):
        self.assertEqual(self.nodes("a = input @ p @ r")[-1], ("lin", 2, 1))
        self.assertEqual(self.nodes("a = join(input, input) @ p")[-1], ("lin", 0, 2))
        self.faults([
            ("c = target @ p", 12, "length 2 is not a multiple of 3"),
            ("c = input @ r", 11, "length 3 is not a multiple of 2"),
            ("c = join(input, sum(input)) @ r @ r", 33, "node is longer than 12"),
        ])

    def test_shift_and_drop(self):
        self.assertEqual(self.nodes("a = shift(input, 0)", "b = drop(a, 2)"), [
            ("input",), ("shift", 0, 0), ("drop", 2, 1),
        ])
        self.faults([
            ("c = shift(input, 32)", 5, "shift must be at most 31"),
            ("c = shift(input, 4294967295)", 5, "shift must be at most 31"),
            ("c = drop(input, 1)", 5, "drop divisor must be at least 2"),
            ("c = drop(input, 0)", 5, "drop divisor must be at least 2"),
        ])

    def test_lower(self):
        self.faults([
            ("c = lower(input, 2)", 5, "length 3 is not a multiple of 2"),
            ("c = lower(input, 0)", 5, "length 3 is not a multiple of 0"),
            ("c = lower(input, 4294967295)", 5, "length 3 is not a multiple of 4294967295"),
        ])

    def test_take(self):
        message = "range is outside the operand"
        self.assertEqual(self.nodes("a = take(input, 2, 1)", "b = take(input, 0, 3)")[1], ("take", 2, 1, 0))
        self.faults([
            ("c = take(input, 0, 0)", 5, message),
            ("c = take(input, 0, 4)", 5, message),
            ("c = take(input, 3, 1)", 5, message),
            ("c = take(input, 3, 0)", 5, message), ("c = take(input, 4294967295, 4294967295)", 5, message),
            ("c = take(input, 4294967295, 1)", 5, message),
        ])

    def test_join(self):
        lines = [*BASE, "a = join(input, input)"]
        self.assertIsNone(checked(text_of(lines, ["b = join(a, a)"], CLOSE)))
        self.faults([
            ("c = join(join(a, a), target)", 5, "node is longer than 12"),
            ("c = join(a, join(a, a))", 5, "node is longer than 12"),
        ], lines)

    def test_mat(self):
        for name in ("mat", "matT"):
            lines = [*BASE, "a = input", "b = target", "d = join(a, a)"]
            self.assertIsNone(checked(text_of(lines, [f"c = {name}(d, b, 1)", f"e = {name}(d, d, 2)"], CLOSE)))
            self.faults([
                (f"c = {name}(a, b, 2)", 5, "length 3 is not a multiple of 2"),
                (f"c = {name}(b, a, 2)", 5, "length 3 is not a multiple of 2"),
                (f"c = {name}(a, b, 5)", 5, "length 3 is not a multiple of 5"),
                (f"c = {name}(a, b, 3)", 5, "length 2 is not a multiple of 3"),
                (f"c = {name}(a, b, 0)", 5, "length 3 is not a multiple of 0"),
                (f"c = {name}(d, a, 1)", 5, "node is longer than 12"),
            ], lines)

    def test_embed(self):
        message = "range is outside the input"
        self.assertEqual(self.nodes("a = embed(r, 0, 3)"), [("embed", 2, 0, 3)])
        self.faults([
            ("c = embed(p, 0, 0)", 5, message), ("c = embed(p, 0, 4)", 5, message), ("c = embed(p, 3, 1)", 5, message),
            ("c = embed(p, 4294967295, 4294967295)", 5, message), ("c = embed(p, 3, 0)", 5, message),
        ])
        self.fault(["param p 1 1 same 0", "c = embed(p, 0, 1)", "input 3"], 2, 5, message)
        self.fault(["input 8", "param p 1 6 same 0", "c = embed(p, 0, 3)"], 3, 5, "node is longer than 12")

    def test_more_than_24_nodes(self):
        lines = [*BASE, "a = input", "z = target"] + [f"a{at} = relu(a)" for at in range(21)]
        self.assertIsNone(checked(text_of(lines, ["loss sum(a20)"], CLOSE[1:])))
        full = [*lines, "b = sum(a)"]
        self.assertIsNone(checked(text_of(full, ["loss b"], CLOSE[1:])))
        self.faults([
            ("c = relu(a)", 5, "more than 24 nodes"), ("c = a + (a - a)", 12, "more than 24 nodes"),
            ("c = input", 5, "more than 24 nodes"), ("loss sum(a)", 6, "more than 24 nodes"),
            ("c = a + z", 7, "lengths 3 and 2 differ"), ("c = shift(a, 32)", 5, "shift must be at most 31"),
            ("c = -3 * a", 8, "more than 24 nodes"), ("c = (a @ p)", 8, "more than 24 nodes"),
            ("c = embed(p, 0, 1)", 5, "more than 24 nodes"), ("c = relu(x)", 10, "unknown name"),
            ("c = relu(input + a)", 10, "more than 24 nodes"),
        ], full)


class KindsOfOperandsTest(Meaning):
    NODE = "a node is expected"
    PARAMETER = "a parameter is expected"

    def check(self, rows):
        self.faults(rows, [*BASE, "a = input"])

    def test_sums(self):
        for sign in "+-":
            self.check([
                (f"c = p {sign} a", 5, self.NODE), (f"c = 3 {sign} a", 5, self.NODE), (f"c = a {sign} 3", 9, self.NODE),
                (f"c = a {sign} -3", 9, self.NODE),
                (f"c = p {sign} q", 5, self.NODE),
                (f"c = 3 {sign} 4", 5, self.NODE),
                (f"c = (q) {sign} (3)", 6, self.NODE),
            ])
        self.check([("c = a - q", 9, self.NODE), ("c = a - (q)", 10, self.NODE)])
        self.assertEqual(self.nodes("a = input + q")[-1], ("bias", 1, 0))

    def test_products(self):
        self.check([
            ("c = p * a", 5, self.NODE),
            ("c = p * 3", 5, self.NODE),
            ("c = p * q", 5, self.NODE),
            ("c = a * p", 9, self.NODE),
            ("c = 3 * p", 9, self.NODE),
            ("c = 3 * 4", 9, self.NODE),
            ("c = -3 * -4", 10, self.NODE),
            ("c = (3) * (4)", 12, self.NODE),
            ("c = 2 * 3 * a", 9, self.NODE),
        ])
        self.assertEqual(self.nodes("a = 2 * (3 * input)"), [("input",), ("scale", 3, 0), ("scale", 2, 1)])

    def test_lin(self):
        self.check([
            ("c = p @ q", 5, self.NODE),
            ("c = 3 @ p", 5, self.NODE),
            ("c = a @ a", 9, self.PARAMETER),
            ("c = a @ 3", 9, self.PARAMETER),
            ("c = a @ -3", 9, self.PARAMETER), ("c = 3 @ 3", 5, self.NODE), ("c = a @ (a @ p)", 12, self.PARAMETER),
        ])

    def test_functions(self):
        rows = [("relu({})", 5), ("sum({})", 4), ("shift({}, 99)", 6), ("drop({}, 0)", 5), ("lower({}, 0)", 6),
                ("take({}, 9, 9)", 5),
                ("join({}, p)", 5),
                ("join(a, {})", 8),
                ("mat({}, p, 0)", 4),
                ("mat(a, {}, 0)", 7),
                ("matT({}, 3, 0)", 5), ("matT(a, {}, 0)", 8)]
        for pattern, at in rows:
            for operand in ("p", "3", "-3"):
                self.check([("c = " + pattern.replace("{}", operand), 5 + at, self.NODE)])
        self.check([("c = join(3, x)", 13, "unknown name"), ("c = join(x, 3)", 10, "unknown name")])

    def test_embed(self):
        self.check([("c = embed(a, 0, 9)", 11, self.PARAMETER), ("c = embed(x, 0, 9)", 11, "unknown name")])

    def test_faults_of_operands_come_first(self):
        self.check([
            ("c = 3 + x", 9, "unknown name"), ("c = p + shift(a, 32)", 9, "shift must be at most 31"),
            ("c = x + y", 5, "unknown name"), ("c = shift(a, 32) + x", 5, "shift must be at most 31"),
            ("c = a * (3 * 4)", 14, self.NODE), ("c = shift(x, 32)", 11, "unknown name"),
        ])

    def test_columns_of_expressions(self):
        self.check([
            ("c = (a + a) + 3", 15, self.NODE),
            ("c = 3 + (a + a)", 5, self.NODE),
            ("c = embed(p, 0, 1) + (a + a) * 3", 20, "lengths 2 and 3 differ"),
            ("c = ((target))+ a", 15, "lengths 2 and 3 differ"),
            ("c = -3  *  target + a", 19, "lengths 2 and 3 differ"),
        ])


class EndTest(Meaning):
    def test_what_is_missing(self):
        self.fault(["seed 3"], 1, 7, "input is not declared")
        self.fault(["input 3"], 1, 8, "target is not declared")
        self.fault(["target 3", ""], 2, 1, "input is not declared")
        self.fault(["input 3", "target 3"], 2, 9, "loss is missing")
        self.fault(["input 1", "target 3", "loss input"], 3, 11, "sample is missing")
        self.fault(["input 1", "target 1", "sample 1 | 2"], 3, 13, "loss is missing")

    def test_column(self):
        self.fault(["input 3", "target 3  # comment"], 2, 20, "loss is missing")
        self.fault(["input 3", "target 3", ""], 3, 1, "loss is missing")
        self.fault(["input 3", "target 3", "    "], 3, 5, "loss is missing")

    def test_lines_stay_as_they_are(self):
        text = text_of(GOOD)
        first = told(job_of(text))
        self.assertEqual(told(job_of(text)), first)
