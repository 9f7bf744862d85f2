"""What the tests of late messages and of networks share: actions, and a second simulation of what they do."""

from tabletalk.errors import NotPossible, TooLarge
from tests.support import (LARGE, STRANGE, Numbers, all_rows, directions, plain_computed, plain_left, plain_neighbours,
                           plain_required, sample_tables, sample_tree)

OUT = ("remove", 2, (1,))
SETTLE = ("settle",)
NOT_TREES = [LARGE, (2, ((0,), (0,)), ()), (2, ((0,), (), (0,)), ((0, 1), (1, 2))),
             (2, ((0,),) * 3, ((0, 1), (0, 2), (1, 2)))]
STAR = (2, ((),) * 5, ((0, 1), (0, 2), (0, 3), (0, 4)))
STAR_TABLES = ((((), 50),),) * 5
SINGLE = (2, ((0,),), ())
# Tuples and other values that are no action for the graph of the example.
WRONG_ACTIONS = STRANGE + [
    0, (), "settle", "set", ("settle", 0), ("settle", ()), ("settle", None), ["settle"], ("Settle",), ("",), (0,),
    (b"settle",), (None,), (("settle",),), ("set",), ("set", 0), ("set", 0, (0,)), ["set", 0, (0,), 1],
    ("set", 0, (0,), 1, 1), ("set", 0, (0,), -1), ("set", 0, (0,), 101), ("set", 0, (0,), True), ("set", 0, (0,), None),
    ("set", 0, (0,), 1.0), ("set", 0, (0,), "1"), ("set", 0, (0,), (1,)), ("set", 0, (2,), 1), ("set", 0, (-1,), 1),
    ("set", 0, (True,), 1), ("set", 0, [0], 1), ("set", 0, 0, 1), ("set", 0, (), 1), ("set", 0, (0, 0), 1),
    ("set", 1, (0,), 1),
    ("set", 3, (0,), 1), ("set", -1, (0,), 1), ("set", False, (0,), 1), ("set", None, (0,), 1), ("set", (0,), (0,), 1),
    ("set", 0.0, (0,), 1), ("set", [], (0,), 1), ("set", 0, None, 1), ("remove",), ("remove", 0),
    ("remove", 0, (0,), 1), ("remove", 0, (2,)), ("remove", 0, [0]), ("remove", 0, ()), ("remove", 1, (0,)),
    ("remove", 3, (0,)), ("remove", True, (0, 0)), ("remove", -1, (0,)), ("remove", 0, (False,)), ("remove", 0, 0),
    ("remove", 0, None), ("resend",), ("resend", 0), ("resend", 0, 3), ("resend", 3, 0), ("resend", -1, 0),
    ("resend", 0, -1),
    ("resend", 0, True), ("resend", False, 1), ("resend", 0, 1, 2), ("resend", (0, 1)), ("resend", 0.0, 1),
    ("resend", 0, None), {"settle": 0}, ({},), ([],), ("send", 0, 1), ("remove", [], [])]
WRONG_ACTIONS += [(word,) + rest for word in ("deliver", "double", "lose") for rest in (
    (), (-1,), (40,), (True,), (False,), (None,), ("0",), (0.0,), ((0,),), ([0],), (0, 0))]


class Plain:
    """What the document says of numbers, updates, arrivals and actions, word by word."""

    def __init__(self, graph, tables):
        self.graph, self.tables = graph, [dict(table) for table in tables]
        self.kept = {pair: (0, message) for pair, message in zip(directions(graph), plain_computed(graph, tables))}
        self.sent = dict(self.kept)
        self.way = []
        self.different = {pair: 0 for pair in self.sent}

    def present(self):
        return tuple(tuple(sorted(table.items())) for table in self.tables)

    def messages(self):
        return tuple(self.kept[pair][1] for pair in directions(self.graph))

    def put(self, pair):
        self.way.append((pair, self.sent[pair]))
        if len(self.way) > 40:
            raise TooLarge("messages")
        return 1

    def update(self, node):
        many = 0
        for other in sorted(plain_neighbours(self.graph, node)):
            required = plain_required(self.graph, self.present(), self.messages(), node, other)
            number, message = self.sent[node, other]
            if required != message:
                self.sent[node, other] = number + 1, required
                self.different[node, other] += 1
                many += self.put((node, other))
        return many

    def arrive(self, pair, numbered):
        if numbered[0] > self.kept[pair][0]:
            self.kept[pair] = numbered
            return self.update(pair[1])
        return 0

    def is_settled(self):
        return all(self.kept[pair][0] == self.sent[pair][0] for pair in self.sent)

    def act(self, action):
        word = action[0]
        if word == "set":
            self.tables[action[1]][action[2]] = action[3]
            return self.update(action[1])
        if word == "remove":
            if action[2] not in self.tables[action[1]]:
                raise NotPossible("missing")
            del self.tables[action[1]][action[2]]
            return self.update(action[1])
        if word == "resend":
            if action[2] not in plain_neighbours(self.graph, action[1]):
                raise NotPossible("neighbour")
            return self.put(action[1:]) if self.sent[action[1:]][0] else 0
        if word == "settle":
            return self.settle()
        if action[1] >= len(self.way):
            raise NotPossible("missing")
        pair, numbered = self.way[action[1]]
        if word in ("deliver", "lose"):
            del self.way[action[1]]
        return 0 if word == "lose" else self.arrive(pair, numbered)

    def settle(self):
        many = 0
        while True:
            while self.way:
                self.arrive(*self.way.pop(0))
                many += 1
            if self.is_settled():
                return many
            self.put(next(pair for pair in directions(self.graph) if self.kept[pair][0] != self.sent[pair][0]))

    def beliefs(self):
        return tuple(plain_left(self.graph, self.present(), self.messages(), node, plain_neighbours(self.graph, node))
                     for node in range(len(self.graph[1])))


def sample_action(numbers, graph, most=6):
    """An action that often is possible."""
    word = numbers.among(("set", "set", "set", "remove", "remove", "deliver", "deliver", "deliver", "double", "lose",
                          "resend", "resend", "settle"))
    node = numbers.below(len(graph[1]))
    row = numbers.among(all_rows(graph[0], graph[1][node]))
    if word == "set":
        return word, node, row, numbers.below(101)
    if word == "remove":
        return word, node, row
    if word == "resend":
        return word, node, numbers.among(plain_neighbours(graph, node) * 4 + [node])
    return (word,) if word == "settle" else (word, numbers.below(most))


def possible_actions(numbers, graph, tables, many):
    """So many actions, each of which is possible, and the plain traffic behind them with their effects."""
    plain = Plain(graph, tables)
    actions, told = [], []
    while len(actions) < many:
        action = sample_action(numbers, graph)
        try:
            told.append(plain.act(action))
        except (NotPossible, TooLarge):
            # What was not possible may have left its traces, so all begins anew.
            plain = Plain(graph, tables)
            for each in actions:
                plain.act(each)
        else:
            actions.append(action)
    return tuple(actions), plain, tuple(told)


def samples(many, length=12):
    numbers = Numbers(74)
    for _ in range(many):
        graph = sample_tree(numbers)
        tables = sample_tables(numbers, graph)
        yield graph, tables, *possible_actions(numbers, graph, tables, numbers.below(length + 1))
