import unittest

from asifone.nets import Net, Parameter, beginning, beginnings, is_net, operands, parameter_of, row_length
from asifone.words import mixed

EXAMPLE = [
    ("input",), ("lin", 0, 0), ("shift", 8, 1), ("bias", 1, 2), ("relu", 3),
    ("target",), ("sub", 4, 5), ("mul", 6, 6), ("sum", 7),
]


def same(rows, cols):
    return Parameter(rows, cols, ("same", 0))


def example(inputs=2, targets=1, parameters=None, nodes=None):
    if parameters is None:
        parameters = [Parameter(2, 1, ("mixed", 24)), same(1, 1)]
    return Net(inputs, targets, parameters, EXAMPLE if nodes is None else nodes)


def small(inputs=1, targets=1, parameters=(), nodes=(("input",), ("sum", 0))):
    return Net(inputs, targets, list(parameters), list(nodes))


class FieldsTest(unittest.TestCase):
    def test_parameter(self):
        parameter = Parameter(2, 3, ("mixed", 24))
        self.assertEqual((parameter.rows, parameter.cols, parameter.fill), (2, 3, ("mixed", 24)))

    def test_net(self):
        net = example()
        self.assertEqual((net.inputs, net.targets), (2, 1))
        self.assertEqual([parameter.rows for parameter in net.parameters], [2, 1])
        self.assertEqual(net.nodes, EXAMPLE)
        self.assertEqual(net.lengths, [2, 1, 1, 1, 1, 1, 1, 1, 1])

    def test_lists_are_copied(self):
        parameters = [same(1, 1)]
        nodes = [("input",), ("sum", 0)]
        net = Net(1, 1, parameters, nodes)
        parameters.append(same(7, 7))
        nodes.append(("relu", 9))
        self.assertEqual((len(net.parameters), len(net.nodes)), (1, 2))
        net.nodes.append(("sum", 1))
        self.assertEqual(len(nodes), 3)
        self.assertEqual(len(parameters), 2)

    def test_lengths_end_before_the_first_fault(self):
        nodes = [("input",), ("join", 0, 0), ("add", 0, 1), ("relu", 0)]
        self.assertEqual(Net(3, 1, [], nodes).lengths, [3, 6])
        self.assertEqual(Net(3, 1, [], [("relu", 0)]).lengths, [])
        self.assertEqual(Net(3, 1, [], []).lengths, [])

    def test_lengths_may_be_too_great(self):
        nodes = [("input",), ("join", 0, 0), ("join", 1, 1), ("sum", 2)]
        self.assertEqual(Net(8, 1, [], nodes).lengths, [8, 16, 32, 1])

    def test_a_node_may_not_name_itself_or_later_nodes(self):
        self.assertEqual(Net(1, 1, [], [("input",), ("relu", 1)]).lengths, [1])
        self.assertEqual(Net(1, 1, [], [("input",), ("relu", 2), ("relu", 0)]).lengths, [1])


class OperandsTest(unittest.TestCase):
    def test_operands(self):
        rows = [
            (("input",), []), (("target",), []), (("lin", 9, 4), [4]), (("bias", 9, 4), [4]),
            (("embed", 9, 4, 3), []), (("mat", 9, 4, 3), [4, 3]), (("matT", 9, 4, 4), [4, 4]),
            (("lower", 9, 4), [4]), (("add", 9, 4), [9, 4]), (("sub", 4, 9), [4, 9]), (("mul", 4, 4), [4, 4]),
            (("scale", 9, 4), [4]), (("shift", 9, 4), [4]), (("relu", 4), [4]), (("drop", 9, 4), [4]),
            (("sum", 4), [4]), (("join", 9, 4), [9, 4]), (("take", 9, 8, 4), [4]),
        ]
        for node, numbers in rows:
            self.assertEqual(operands(node), numbers, node)

    def test_parameter(self):
        self.assertEqual(parameter_of(("lin", 9, 4)), 9)
        self.assertEqual(parameter_of(("bias", 0, 4)), 0)
        self.assertEqual(parameter_of(("embed", 2, 4, 3)), 2)
        for node in (("input",), ("target",), ("mat", 9, 4, 3), ("scale", 9, 4), ("relu", 4), ("take", 9, 8, 4)):
            self.assertIsNone(parameter_of(node), node)

    def test_answers_are_new(self):
        node = ("add", 1, 2)
        operands(node).append(3)
        self.assertEqual(operands(node), [1, 2])


class IsNetTest(unittest.TestCase):
    def test_networks(self):
        self.assertIs(is_net(example()), True)
        self.assertIs(is_net(small()), True)

    def test_ends(self):
        for number, result in ((0, False), (1, True), (8, True), (9, False), (-1, False)):
            self.assertIs(is_net(small(inputs=number)), result, number)
            self.assertIs(is_net(small(targets=number)), result, number)
        # Also where no node has the inputs.
        self.assertIs(is_net(Net(1, 1, [], [("target",)])), True)
        self.assertIs(is_net(Net(0, 1, [], [("target",)])), False)
        self.assertIs(is_net(Net(1, 0, [], [("input",)])), False)

    def test_number_of_parameters(self):
        self.assertIs(is_net(small(parameters=[same(1, 1)] * 8)), True)
        self.assertIs(is_net(small(parameters=[same(1, 1)] * 9)), False)

    def test_sides(self):
        for number, result in ((0, False), (1, True), (6, True), (7, False), (-1, False)):
            self.assertIs(is_net(small(parameters=[same(number, 1)])), result, number)
            self.assertIs(is_net(small(parameters=[same(1, 1), same(1, number)])), result, number)

    def test_fills(self):
        for k, result in ((0, True), (31, True), (32, False), (-1, False)):
            self.assertIs(is_net(small(parameters=[Parameter(1, 1, ("mixed", k))])), result, k)
        # The word of all cells is not checked.
        self.assertIs(is_net(small(parameters=[Parameter(1, 1, ("same", 2 ** 31))])), True)

    def test_number_of_nodes(self):
        for many, result in ((1, True), (24, True), (25, False)):
            nodes = [("input",)] + [("relu", v) for v in range(many - 1)]
            self.assertIs(is_net(small(nodes=nodes)), result, many)
        self.assertIs(is_net(small(nodes=[])), False)

    def test_lengths_of_nodes(self):
        twelve = [("input",), ("take", 0, 4, 0), ("join", 0, 1), ("sum", 2)]
        self.assertIs(is_net(small(inputs=8, nodes=twelve)), True)
        thirteen = [("input",), ("take", 0, 5, 0), ("join", 0, 1), ("sum", 2)]
        self.assertIs(is_net(small(inputs=8, nodes=thirteen)), False)

    def test_length_of_the_last_node(self):
        self.assertIs(is_net(small(inputs=2, nodes=[("input",), ("sum", 0)])), True)
        self.assertIs(is_net(small(inputs=2, nodes=[("input",), ("sum", 0), ("relu", 0)])), False)

    def test_a_node_that_lacks_something(self):
        for bad in (("relu", 1), ("lin", 0, 0), ("shift", 32, 0), ("take", 0, 0, 0), ("mat", 0, 0, 0)):
            self.assertIs(is_net(small(nodes=[("input",), bad, ("sum", 0)])), False, bad)

    def test_a_last_node_that_lacks_something(self):
        self.assertIs(is_net(small(nodes=[("input",), ("relu", 1)])), False)

    def test_true_after_nodes_are_changed(self):
        net = small()
        net.nodes.append(("relu", 7))
        self.assertIs(is_net(net), False)

    def test_arguments_stay(self):
        net = example()
        is_net(net)
        self.assertEqual((net.nodes, net.lengths), (EXAMPLE, [2, 1, 1, 1, 1, 1, 1, 1, 1]))


class BeginningTest(unittest.TestCase):
    def setUp(self):
        fills = [(2, 3, ("same", -5)), (2, 2, ("mixed", 0)), (1, 3, ("mixed", 24)), (2, 1, ("mixed", 31))]
        self.net = Net(1, 1, [Parameter(*fill) for fill in fills], [])

    def test_same(self):
        self.assertEqual(beginning(self.net, 77, 0, 1, 2), -5)
        self.assertEqual(beginning(self.net, -1, 0, 0, 0), -5)

    def test_mixed(self):
        self.assertEqual(beginning(self.net, 77, 1, 0, 1), mixed(77, [3, 1, 0, 1]))
        self.assertEqual(beginning(self.net, 77, 1, 1, 0), mixed(77, [3, 1, 1, 0]))
        self.assertEqual(beginning(self.net, -9, 2, 0, 2), mixed(-9, [3, 2, 0, 2]) // 2 ** 24)

    def test_known_words(self):
        net = Net(1, 1, [Parameter(2, 1, ("mixed", 0)), Parameter(1, 2, ("mixed", 20))], [])
        self.assertEqual(beginnings(net, 12345), [
            [[1389295601], [-333117184]],
            [[mixed(12345, [3, 1, 0, 0]) // 1048576, 1672513299 // 1048576]],
        ])

    def test_shifted_toward_minus_infinity(self):
        for seed in range(40):
            word = mixed(seed, [3, 3, 1, 0])
            self.assertEqual(beginning(self.net, seed, 3, 1, 0), -1 if word < 0 else 0)

    def test_all_cells(self):
        cells = beginnings(self.net, 4)
        self.assertEqual([[len(row) for row in matrix] for matrix in cells], [[3, 3], [2, 2], [3], [1, 1]])
        for p, matrix in enumerate(cells):
            for i, row in enumerate(matrix):
                for j, word in enumerate(row):
                    self.assertEqual(word, beginning(self.net, 4, p, i, j))

    def test_no_parameters(self):
        self.assertEqual(beginnings(Net(1, 1, [], []), 4), [])

    def test_answers_are_new(self):
        first = beginnings(self.net, 4)
        first[0][0][0] = 99
        first[1].append([1])
        second = beginnings(self.net, 4)
        self.assertEqual(second[0], [[-5, -5, -5], [-5, -5, -5]])
        self.assertEqual(len(second[1]), 2)


class RowLengthTest(unittest.TestCase):
    def test_all_kinds(self):
        parameters = [same(2, 3), same(1, 2), same(4, 3)]
        rows = [
            (("input",), 6), (("target",), 4), (("lin", 0, 0), 3), (("bias", 1, 0), 2),
            (("embed", 2, 0, 2), 3), (("mat", 2, 0, 1), 2), (("matT", 2, 1, 0), 3), (("lower", 2, 0), 2),
            (("add", 2, 2), 3), (("sub", 3, 0), 2), (("mul", 0, 3), 6), (("scale", 5, 4), 3),
            (("shift", 5, 7), 2), (("relu", 12), 2), (("drop", 2, 5), 2), (("sum", 2), 1),
            (("join", 3, 1), 10), (("take", 1, 4, 3), 4), (("relu", 17), 4), (("add", 10, 3), 6),
        ]
        net = Net(6, 4, parameters, [node for node, _ in rows])
        self.assertEqual(len(net.lengths), len(rows))
        for v, (node, result) in enumerate(rows):
            self.assertEqual(row_length(net, v), result, node)

    def test_through_many_nodes(self):
        nodes = [("input",), ("lower", 2, 0)] + [("relu", v) for v in range(1, 23)]
        self.assertEqual(row_length(Net(6, 1, [], nodes), 23), 2)
