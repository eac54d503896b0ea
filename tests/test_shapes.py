import unittest

from asifone.nets import Net, Parameter
from asifone.shapes import length_of

PARAMETERS = [Parameter(2, 3, ("same", 0)), Parameter(1, 2, ("same", 0)), Parameter(5, 4, ("mixed", 7))]
KNOWN = [6, 4, 1, 6, 12]


def length(node, known=KNOWN):
    return length_of(Net(5, 3, PARAMETERS, []), list(known), node)


class LengthTest(unittest.TestCase):
    def check(self, rows):
        for node, result in rows:
            self.assertEqual(length(node), result, node)

    def test_sample(self):
        self.check([(("input",), 5), (("target",), 3)])
        self.assertEqual(length(("input",), []), 5)

    def test_lin(self):
        self.check([
            (("lin", 0, 0), 9), (("lin", 0, 1), 6), (("lin", 1, 0), 12), (("lin", 1, 2), 2),
            (("lin", 0, 2), None), (("lin", 2, 0), None),
            (("lin", 0, 4), 18), (("lin", 1, 4), 24),
        ])

    def test_bias(self):
        self.check([
            (("bias", 1, 0), 6), (("bias", 1, 1), 4),
            (("bias", 1, 2), None), (("bias", 0, 0), None), (("bias", 2, 1), None),
        ])

    def test_embed(self):
        self.check([
            (("embed", 0, 0, 5), 15), (("embed", 0, 4, 1), 3), (("embed", 2, 1, 3), 12),
            (("embed", 0, 0, 0), None), (("embed", 0, 5, 0), None), (("embed", 0, 5, 1), None),
            (("embed", 0, 3, 3), None), (("embed", 0, 0, -1), None), (("embed", 0, -1, 2), None),
        ])

    def test_mat(self):
        for kind in ("mat", "matT"):
            self.check([
                ((kind, 2, 0, 1), 6), ((kind, 2, 1, 0), 6), ((kind, 1, 0, 1), 24), ((kind, 6, 0, 3), 1),
                ((kind, 3, 0, 3), 4), ((kind, 3, 4, 0), 8), ((kind, 2, 0, 0), 9),
                ((kind, 3, 0, 1), None), ((kind, 3, 1, 0), None), ((kind, 2, 0, 2), None),
                ((kind, 0, 0, 1), None), ((kind, -2, 0, 1), None), ((kind, 12, 0, 1), None),
            ])

    def test_lower(self):
        self.check([
            (("lower", 1, 0), 6), (("lower", 2, 0), 6), (("lower", 6, 0), 6),
            (("lower", 4, 0), None), (("lower", 12, 0), None), (("lower", 0, 0), None), (("lower", -1, 0), None),
        ])

    def test_pairs(self):
        for kind in ("add", "sub", "mul"):
            self.check([
                ((kind, 0, 3), 6), ((kind, 3, 0), 6), ((kind, 1, 1), 4),
                ((kind, 0, 1), None), ((kind, 2, 0), None),
            ])

    def test_scale(self):
        self.check([
            (("scale", 0, 0), 6), (("scale", -2147483648, 1), 4), (("scale", 2147483647, 1), 4),
            (("scale", -2147483649, 1), None), (("scale", 2147483648, 1), None),
        ])

    def test_shift(self):
        self.check([
            (("shift", 0, 0), 6), (("shift", 31, 1), 4), (("shift", 32, 1), None), (("shift", -1, 1), None),
        ])

    def test_drop(self):
        self.check([
            (("drop", 2, 0), 6), (("drop", 4294967295, 1), 4), (("drop", 1, 1), None), (("drop", 0, 1), None),
            (("drop", 4294967296, 1), None),
        ])

    def test_relu_sum_join(self):
        self.check([
            (("relu", 0), 6), (("relu", 2), 1), (("sum", 0), 1), (("sum", 2), 1),
            (("join", 0, 1), 10), (("join", 1, 1), 8), (("join", 4, 0), 18),
        ])

    def test_take(self):
        self.check([
            (("take", 0, 6, 0), 6), (("take", 5, 1, 0), 1), (("take", 1, 3, 1), 3),
            (("take", 0, 7, 0), None), (("take", 6, 1, 0), None), (("take", 0, 0, 0), None),
            (("take", 6, 0, 0), None), (("take", 2, -1, 0), None), (("take", -1, 2, 0), None),
        ])

    def test_operands_that_do_not_exist(self):
        for bad in (5, 6, -1):
            self.check([
                (node, None) for node in (
                    ("lin", 0, bad), ("bias", 1, bad), ("mat", 1, bad, 0), ("mat", 1, 0, bad), ("matT", 1, bad, 0),
                    ("matT", 1, 0, bad), ("lower", 1, bad), ("add", bad, bad), ("add", 0, bad), ("sub", bad, 0),
                    ("mul", bad, bad), ("scale", 1, bad), ("shift", 1, bad), ("relu", bad), ("drop", 2, bad),
                    ("sum", bad), ("join", bad, 0), ("join", 0, bad), ("take", 0, 1, bad),
                )
            ])

    def test_parameters_that_do_not_exist(self):
        for bad in (3, 4, -1):
            self.check([(("lin", bad, 0), None), (("bias", bad, 0), None), (("embed", bad, 0, 1), None)])

    def test_a_kind_that_does_not_exist(self):
        self.assertIsNone(length(("conv", 0)))

    def test_no_nodes_before(self):
        for node in (("relu", 0), ("sum", 0), ("add", 0, 0), ("take", 0, 1, 0)):
            self.assertIsNone(length(node, []))

    def test_parameters_without_sides(self):
        net = Net(5, 3, [Parameter(0, 3, ("same", 0)), Parameter(1, 0, ("same", 0))], [])
        self.assertIsNone(length_of(net, [6], ("lin", 0, 0)))
        self.assertIsNone(length_of(net, [6], ("bias", 1, 0)))

    def test_arguments_stay(self):
        known = [6, 4]
        net = Net(5, 3, PARAMETERS, [])
        length_of(net, known, ("join", 0, 1))
        self.assertEqual(known, [6, 4])
        self.assertEqual(net.lengths, [])
