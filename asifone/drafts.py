"""Drafts: what the lines of a job text have said so far."""

from asifone.errors import TextError
from asifone.faults import fault_of
from asifone.jobs import Job
from asifone.nets import Net
from asifone.shapes import length_of


class Draft:
    """A job that is being read; with its inputs, targets and parameters it serves as a network for length_of.

    A length of inputs or targets of 0 is one that is not declared. The names stand for pairs of a
    sort (parameter or node) and a number.
    """

    def __init__(self):
        self.line = 0
        self.inputs = 0
        self.targets = 0
        self.settings = {}
        self.names = {}
        self.parameters = []
        self.nodes = []
        self.lengths = []
        self.rates = []
        self.data = []
        self.ended = False

    def fail(self, column, message):
        """Raises a fault of the present line."""
        raise TextError(self.line, column, message)

    def add_node(self, node, column):
        """Adds a node and returns its number."""
        message = fault_of(self, node)
        if message is not None:
            self.fail(column, message)
        self.lengths.append(length_of(self, self.lengths, node))
        self.nodes.append(node)
        return len(self.nodes) - 1

    def job(self):
        """The job that the lines have told."""
        return Job(
            Net(self.inputs, self.targets, self.parameters, self.nodes),
            self.settings.get("seed", 0),
            self.settings.get("batch", 1),
            self.settings.get("beta", 0),
            self.settings.get("point", 0),
            self.rates,
            self.data,
        )
