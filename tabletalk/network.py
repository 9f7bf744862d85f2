"""Networks: junction trees with tables and messages, which perform commands one at a time and undo them."""

from tabletalk.bounds import told_total
from tabletalk.checks import require
from tabletalk.errors import NotPossible, TooLarge
from tabletalk.graphs import check_tree, is_node
from tabletalk.late import MOST_ACTIONS, first_traffic, fits_action


class Network:
    """A junction tree with tables, messages with their numbers, and a journal of what was done."""

    def __init__(self, graph):
        check_tree(graph)
        self.graph = graph
        self.performed = []
        # The traffic at the beginning and behind each command. None of it changes any more, so twins can share it.
        self.stages = [first_traffic(graph, tuple([() for _ in graph[1]]))]

    def act(self, command):
        """Performs the command, and returns its effect."""
        require(fits_action(self.graph, command), "command")
        # A copy acts, so nothing has changed if the command turns out not to be possible.
        behind = self.stages[-1].copied()
        effect = behind.act(command)
        if len(self.performed) == MOST_ACTIONS:
            raise TooLarge("commands")
        self.performed.append((command, effect))
        self.stages.append(behind)
        return effect

    def undo(self):
        """Undoes the last command and returns it, or None if the journal is empty."""
        if not self.performed:
            return None
        self.stages.pop()
        command, _ = self.performed.pop()
        return command

    def tables(self):
        """The tables."""
        return tuple(self.stages[-1].tables)

    def journal(self):
        """The commands in the journal."""
        return tuple([command for command, _ in self.performed])

    def on_the_way(self):
        """Triples of the sender, the receiver and the number of each message that is on the way."""
        return self.stages[-1].numbered_way()

    def is_settled(self):
        """True if the network is settled."""
        return not self.stages[-1].unsettled()

    def belief(self, node):
        """The belief of the node."""
        require(is_node(self.graph, node), "node")
        return self.stages[-1].belief_of(node)

    def total(self):
        """The pair of the number of the solutions and the least cost of one, or None if there is none."""
        if not self.is_settled():
            raise NotPossible("settled")
        # In a settled network all nodes tell the same, so any of them can be asked.
        return told_total(self.belief(0))

    def records(self):
        """Each command in the journal with its effect."""
        return tuple(self.performed)

    def twin(self):
        """A network with the same graph and journal."""
        other = Network(self.graph)
        other.performed = list(self.performed)
        other.stages = list(self.stages)
        return other
