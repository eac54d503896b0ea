"""[30]: the written form."""

import unittest

from asifone.errors import TextError
from asifone.texts import checked, formatted, job_of
from tests.support import EXAMPLE, rng_of, told

FRONT = """input 3
target 3
param p 3 3 mixed 9
param q 1 3 same -4
a = input
b = target
"""
BACK = """
loss sum(c * c)
sample 1 2 3 | 4 5 6
"""


def some_expression(rng, depth):
    """A random expression, with spaces and parentheses as they come."""
    if depth == 0 or rng.randrange(6) == 0:
        text = rng.choice(["a", "b", "input", "target", "-03", "(a)"])
        return text if text != "-03" else rng.choice(["-03 * a", "a*-0", "2*b", "(7) * ( b )"])
    first, second = some_expression(rng, depth - 1), some_expression(rng, depth - 1)
    pair = [first if rng.randrange(2) else f"({first})", second if rng.randrange(2) else f"( {second} )"]
    patterns = [
        f"{pair[0]} + {pair[1]}", f"{pair[0]}-{pair[1]}", f"({first})*({second})", f"({first}) @p", f"({first})+q",
        f"relu( {first})", f"shift({first},07)", f"drop({first} , 3)", f"lower(({first}), 01)",
        f"take( join( {first},{second} ), 0, 3)", f"matT(sum({first}),{second},1)", f"(({first}))",
        f"{first} - ({second})", f"({first} @ p) * {second}", f"a * ({first}*{second})",
    ]
    return rng.choice(patterns)


class ExamplesTest(unittest.TestCase):
    def check(self, rows):
        for text, result in rows:
            self.assertEqual(formatted(text), result, text)
            self.assertEqual(formatted(result), result, text)

    def test_of_the_document(self):
        self.check([
            ("  h=shift((input@w),008)*-03#c", "h = shift(input @ w, 8) * -3 #c"),
            ("h=shift(input@w,8)*-3", "h = shift(input @ w, 8) * -3"), ("sample 3 - 1|2", "sample 3 -1 | 2"),
            ("a=mat(a,(b+c)*d,2)", "a = mat(a, (b + c) * d, 2)"), (EXAMPLE, EXAMPLE),
        ])

    def test_statements(self):
        self.check([
            ("  input   03", "input 3"), ("target 9", "target 9"), ("param  w 02 1 mixed 024", "param w 2 1 mixed 24"),
            ("param w 2 1 same - 007", "param w 2 1 same -7"), ("seed -  0", "seed -0"), ("batch 0", "batch 0"),
            ("beta 00", "beta 0"), ("point 031", "point 31"), ("rate 000 -4294967295", "rate 0 -4294967295"),
            ("sample |", "sample |"), ("sample|1", "sample | 1"), ("sample 1-2-3|-4 5", "sample 1 -2 -3 | -4 5"),
            ("loss   a", "loss a"), ("loss(a)", "loss a"), ("a=b", "a = b"),
        ])

    def test_lines(self):
        self.check([
            ("", ""), ("   ", ""), ("\n\n", "\n\n"), (" seed 1  \n   \n", "seed 1\n\n"), ("\nseed 1", "\nseed 1"),
        ])

    def test_comments(self):
        self.check([
            ("#", "#"), ("    # a  b ", "# a  b "), ("seed 1#x", "seed 1 #x"), ("seed 1     # x  ", "seed 1 # x  "),
            ("seed 1 ##", "seed 1 ##"), ("a=b#c=(d)", "a = b #c=(d)"), ("# % ! \\ ~\n#", "# % ! \\ ~\n#"),
        ])

    def test_spaces(self):
        self.check([
            ("a=b+c-d*e@f", "a = b + c - d * e @ f"), ("a=take(b,0,1)", "a = take(b, 0, 1)"),
            ("a = take ( b , 0 , 1 )", "a = take(b, 0, 1)"), ("a=embed(p,0,1)", "a = embed(p, 0, 1)"),
            ("a=join(b,relu(c))", "a = join(b, relu(c))"), ("a=(b+c)*(d-e)", "a = (b + c) * (d - e)"),
            ("a=matT(b,c,02)+sum(d)", "a = matT(b, c, 2) + sum(d)"),
        ])

    def test_numerals(self):
        self.check([
            ("a=-3", "a = -3"), ("a=b- 3", "a = b - 3"), ("a=b--3", "a = b - -3"), ("a=b*- 003", "a = b * -3"),
            ("a=-00", "a = -0"), ("a=(-3)*b", "a = -3 * b"), ("a=b-(-3)", "a = b - -3"), ("a=relu(-3)", "a = relu(-3)"),
            ("a=00042", "a = 42"), ("a=(-0)", "a = -0"),
        ])

    def test_parentheses_that_go(self):
        self.check([
            ("a=(b)", "a = b"), ("a=((b+c))", "a = b + c"), ("a=(b+c)+d", "a = b + c + d"),
            ("a=(b-c)-d", "a = b - c - d"),
            ("a=b+(c*d)", "a = b + c * d"), ("a=(b*c)+d", "a = b * c + d"), ("a=(b*c)*d", "a = b * c * d"),
            ("a=(b@c)@d", "a = b @ c @ d"), ("a=(b*c)@d", "a = b * c @ d"), ("a=b*(c)", "a = b * c"),
            ("a=relu((b+c))", "a = relu(b + c)"), ("a=join((b),(c+d))", "a = join(b, c + d)"),
            ("a=b*(relu(c))", "a = b * relu(c)"), ("a=b-(c@d)", "a = b - c @ d"),
            ("a=(input)-(target)", "a = input - target"), ("a=b*(input)", "a = b * input"),
        ])

    def test_parentheses_that_stay(self):
        self.check([
            ("a=(b+c)*d", "a = (b + c) * d"), ("a=d*(b-c)", "a = d * (b - c)"), ("a=(b-c)@d", "a = (b - c) @ d"),
            ("a=b@(c+d)", "a = b @ (c + d)"), ("a=b+(c+d)", "a = b + (c + d)"), ("a=b-(c-d)", "a = b - (c - d)"),
            ("a=b+(c-d)", "a = b + (c - d)"), ("a=b*(c*d)", "a = b * (c * d)"), ("a=b@(c@d)", "a = b @ (c @ d)"),
            ("a=b*(c@d)", "a = b * (c @ d)"), ("a=b@((c*d))", "a = b @ (c * d)"),
            ("a=(((b+c)*d))+(e*((f)-g))", "a = (b + c) * d + e * (f - g)"),
        ])

    def test_whatever_it_means(self):
        self.check([("loss x\nloss y", "loss x\nloss y"), ("input 99", "input 99"), ("a = 3 + p", "a = 3 + p")])


class FaultsTest(unittest.TestCase):
    def test_first_fault_of_the_grammar(self):
        rows = [
            ("seed", 1, 5, "unexpected end of line"), ("loss x\n\n seed _", 3, 7, "malformed name"),
            ("input 99\na = b c\n_", 2, 7, "unexpected token"), ("relu", 1, 1, "reserved word"),
        ]
        for text, line, column, message in rows:
            with self.assertRaises(TextError) as caught:
                formatted(text)
            fault = caught.exception
            self.assertEqual((fault.line, fault.column, fault.message), (line, column, message))


class RandomTest(unittest.TestCase):
    def texts(self):
        for seed in range(600):
            rng = rng_of(seed)
            text = FRONT + "c = " + some_expression(rng, 1 + seed % 3) + BACK
            if checked(text) is None:
                yield text

    def test_same_text_and_same_meaning(self):
        many = 0
        for text in self.texts():
            many += 1
            written = formatted(text)
            self.assertEqual(formatted(written), written)
            self.assertEqual(told(job_of(written)), told(job_of(text)), text)
        self.assertGreater(many, 200)

    def test_no_parentheses_are_superfluous(self):
        kept = 0
        for text in self.texts():
            line = formatted(text).split("\n")[6]
            for start, end in groups(line):
                other = line[:start] + line[start + 1:end] + line[end + 1:]
                # Without them it is another expression.
                self.assertEqual(formatted(other), other)
                self.assertNotEqual(shape(text, line), shape(text, other), line)
                kept += 1
        self.assertGreater(kept, 100)


def groups(line):
    """The places of parentheses that are not those of a call."""
    found, opened = [], []
    for at, character in enumerate(line):
        if character == "(":
            opened.append(at)
        if character == ")":
            start = opened.pop()
            if not line[start - 1].isalnum():
                found.append((start, at))
    return found


def shape(text, line):
    """What the text means with this line in place of its own, a fault included."""
    lines = formatted(text).split("\n")
    lines[6] = line
    changed = "\n".join(lines)
    return checked(changed) or job_of(changed).net.nodes
