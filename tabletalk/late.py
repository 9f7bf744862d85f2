"""Messages in a junction tree with tables that change, which arrive late, twice, in another sequence, or never."""

from tabletalk.checks import is_integer, is_tuple, is_word, require
from tabletalk.errors import NotPossible, TooLarge
from tabletalk.graphs import all_nodes, are_neighbours, check_tree, is_node, neighbours
from tabletalk.messages import believed, directions, required
from tabletalk.rounds import computed
from tabletalk.solutions import are_tables
from tabletalk.tables import MOST_TABLE_COST, is_row

WORDS = ("set", "remove", "deliver", "double", "lose", "resend", "settle")
MOST_ACTIONS = 20
MOST_ON_THE_WAY = 40


def is_action(graph, value):
    """True if the value is an action for the graph."""
    check_tree(graph)
    return fits_action(graph, value)


def tables_behind(graph, tables, actions):
    """The tables behind the actions."""
    traffic, _ = performed(graph, tables, actions)
    return tuple(traffic.tables)


def on_the_way(graph, tables, actions):
    """Triples of the sender, the receiver and the number of each message that is on the way behind the actions."""
    traffic, _ = performed(graph, tables, actions)
    return traffic.numbered_way()


def effects(graph, tables, actions):
    """The effects of the actions."""
    _, found = performed(graph, tables, actions)
    return found


def is_settled(graph, tables, actions):
    """True if the tables are settled behind the actions."""
    traffic, _ = performed(graph, tables, actions)
    return not traffic.unsettled()


def beliefs(graph, tables, actions):
    """The beliefs of the nodes behind the actions."""
    traffic, _ = performed(graph, tables, actions)
    return tuple([traffic.belief_of(node) for node in all_nodes(graph)])


def kept(graph, tables, actions):
    """The messages that are kept behind the actions."""
    traffic, _ = performed(graph, tables, actions)
    return tuple(traffic.kept)


def performed(graph, tables, actions):
    """The traffic behind the actions, and their effects."""
    check_tree(graph)
    require(are_tables(graph, tables), "tables")
    require(are_actions(graph, actions), "actions")
    traffic = first_traffic(graph, tables)
    return traffic, tuple([traffic.act(action) for action in actions])


def first_traffic(graph, tables):
    """The traffic at the beginning, where the computed messages are kept and nothing is on the way."""
    return Traffic(graph, tables, computed(graph, tables))


def are_actions(graph, value):
    """True if the value is a tuple of as many actions for the graph as there can be."""
    return is_tuple(value, 0, MOST_ACTIONS) and all([fits_action(graph, action) for action in value])


def fits_action(graph, value):
    """What is_action returns, without checks."""
    if not is_tuple(value, 1, 4) or not is_word(value[0], WORDS):
        return False
    word, rest = value[0], value[1:]
    if word == "set":
        return len(rest) == 3 and is_place(graph, rest[:2]) and is_integer(rest[2], 0, MOST_TABLE_COST)
    if word == "remove":
        return is_place(graph, rest)
    if word in ("deliver", "double", "lose"):
        return len(rest) == 1 and is_integer(rest[0], 0, MOST_ON_THE_WAY - 1)
    if word == "resend":
        return len(rest) == 2 and all([is_node(graph, node) for node in rest])
    return rest == ()


def is_place(graph, value):
    """True if these are a node of the graph and a row of its scope."""
    return len(value) == 2 and is_node(graph, value[0]) and is_row(graph[0], graph[1][value[0]], value[1])


class Traffic:
    """The tables of a junction tree, and along each direction what is kept, what was sent last, and the numbers."""

    def __init__(self, graph, tables, messages):
        self.graph = graph
        self.pairs = directions(graph)
        self.tables = list(tables)
        self.kept = list(messages)
        self.kept_numbers = [0 for _ in messages]
        self.last = list(messages)
        self.last_numbers = [0 for _ in messages]
        # What is on the way: triples of the index of a direction, a message and its number.
        self.way = []

    def copied(self):
        """The same traffic once more; what is done to the one does not change the other."""
        other = Traffic(self.graph, self.tables, self.kept)
        other.kept_numbers = list(self.kept_numbers)
        other.last = list(self.last)
        other.last_numbers = list(self.last_numbers)
        other.way = list(self.way)
        return other

    def act(self, action):
        """Performs an action for the graph, and returns its effect."""
        word = action[0]
        if word == "set":
            return self.set_row(action[1], action[2], action[3])
        if word == "remove":
            return self.remove_row(action[1], action[2])
        if word == "resend":
            return self.resend(action[1], action[2])
        if word == "settle":
            return self.settle()
        return self.take(word, action[1])

    def set_row(self, node, row, cost):
        """Puts the row into the table of the node, or changes its cost; how many messages the node sends then."""
        rest = [item for item in self.tables[node] if item[0] != row]
        self.tables[node] = tuple(sorted(rest + [(row, cost)]))
        return self.update_node(node)

    def remove_row(self, node, row):
        """Takes the row out of the table of the node; how many messages the node sends then."""
        rest = tuple([item for item in self.tables[node] if item[0] != row])
        if rest == self.tables[node]:
            raise NotPossible("missing")
        self.tables[node] = rest
        return self.update_node(node)

    def resend(self, node, other):
        """Sends what the node sent the other one last once more, if it sent anything; how many messages these are."""
        if not are_neighbours(self.graph, node, other):
            raise NotPossible("neighbour")
        at = self.pairs.index((node, other))
        if self.last_numbers[at] == 0:
            return 0
        self.put_on_the_way(at)
        return 1

    def settle(self):
        """Delivers until nothing is on the way and the tables are settled; how many messages were delivered."""
        delivered = 0
        while self.way or self.unsettled():
            if not self.way:
                self.put_on_the_way(self.unsettled()[0])
            self.arrive(self.way.pop(0))
            delivered += 1
        return delivered

    def take(self, word, at):
        """Delivers, doubles or loses what is on the way at this index; how many messages are sent then."""
        if at >= len(self.way):
            raise NotPossible("missing")
        item = self.way[at]
        if word != "double":
            self.way.pop(at)
        return 0 if word == "lose" else self.arrive(item)

    def arrive(self, item):
        """Lets something that is, or was, on the way arrive; how many messages its receiver sends then."""
        at, message, number = item
        if number <= self.kept_numbers[at]:
            return 0
        self.kept[at] = message
        self.kept_numbers[at] = number
        return self.update_node(self.pairs[at][1])

    def update_node(self, node):
        """Sends each neighbour the required message if it is a new one; how many messages the node sends."""
        sent = 0
        for other in neighbours(self.graph, node):
            at = self.pairs.index((node, other))
            message = required(self.graph, self.tables, self.kept, node, other)
            if message != self.last[at]:
                self.last[at] = message
                self.last_numbers[at] += 1
                self.put_on_the_way(at)
                sent += 1
        return sent

    def put_on_the_way(self, at):
        """Puts the message that was sent last along a direction behind everything on the way."""
        if len(self.way) == MOST_ON_THE_WAY:
            raise TooLarge("messages")
        self.way.append((at, self.last[at], self.last_numbers[at]))

    def numbered_way(self):
        """Triples of the sender, the receiver and the number of each message that is on the way, in order."""
        return tuple([self.pairs[at] + (number,) for at, _, number in self.way])

    def belief_of(self, node):
        """The belief of the node, by the messages that are kept."""
        return believed(self.graph, self.tables, self.kept, node)

    def unsettled(self):
        """The indexes of the directions along which the number that is kept is not that of the message sent last."""
        return [at for at, number in enumerate(self.last_numbers) if self.kept_numbers[at] != number]
