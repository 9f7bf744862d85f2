"""Points 1 to 8 and 118 to 129 as far as they speak of tabletalk.network: commands, undoing, twins and totals."""

import copy

from tabletalk.errors import BadValue, NotPossible, TableError, TooLarge
from tabletalk.late import beliefs, effects, is_settled, on_the_way, tables_behind
from tabletalk.network import Network
from tabletalk.projections import projection
from tests.support import (BARE, GRAPH, WRONG_GRAPHS, WRONG_NODES, Case, Numbers, plain_solutions, sample_tables,
                           sample_tree)
from tests.traffic import NOT_TREES, SETTLE, SINGLE, STAR, WRONG_ACTIONS, Plain, sample_action

# A solution is set, one message is delivered, and two are on the way then.
SETS = (("set", 0, (0,), 1), ("set", 1, (0, 1), 2), ("set", 2, (1,), 0))
# Each node of a star has a row and knows of all others; then the middle tells all four of them something, ten times.
READY = tuple(("set", node, (), 1) for node in range(5)) + (SETTLE,)
FULL = tuple(("set", 0, (), cost) for cost in range(2, 12))


def nothing(graph):
    return ((),) * len(graph[1])


def told_by(network):
    """All that a network tells; a total, if there is one, in a tuple."""
    told = tuple(network.belief(node) for node in range(len(network.tables())))
    total = (network.total(),) if network.is_settled() else ()
    return (network.tables(), network.journal(), network.on_the_way(), network.is_settled(), told, total,
            network.records())


def plain_told(plain, journal, effect):
    """What a network tells by a second simulation."""
    total = ()
    if plain.is_settled():
        found = plain_solutions(plain.graph, plain.present())
        total = ((len(found), min((cost for _, cost in found), default=None)),)
    way = tuple(pair + (number,) for pair, (number, _) in plain.way)
    return (plain.present(), tuple(journal), way, plain.is_settled(), plain.beliefs(), total,
            tuple(zip(journal, effect)))


def network_of(graph, *commands):
    network = Network(graph)
    for command in commands:
        network.act(command)
    return network


def runs(many, length):
    """Networks behind commands of any kind, each with what a second simulation tells."""
    numbers = Numbers(118)
    for at in range(many):
        graph = GRAPH if at % 4 == 0 else sample_tree(numbers)
        network, plain = Network(graph), Plain(graph, nothing(graph))
        for _ in range(numbers.below(length + 1)):
            command = sample_action(numbers, graph)
            behind = copy.deepcopy(plain)
            try:
                behind.act(command)
            except (NotPossible, TooLarge):
                continue
            network.act(command)
            plain = behind
        yield network, plain, numbers


class NetworkTest(Case):
    def assert_told(self, right, network):
        self.assert_same(right, told_by(network))

    def test_new(self):
        for graph in (GRAPH, BARE, SINGLE, STAR):
            network = Network(graph)
            empty = nothing(graph)
            self.assert_told((empty, (), (), True, empty, ((0, None),), ()), network)
            self.assert_same(None, network.undo())
            self.assert_told((empty, (), (), True, empty, ((0, None),), ()), network)

    def test_example(self):
        network = Network(GRAPH)
        self.assert_same([1, 0, 1], [network.act(command) for command in SETS])
        self.assert_same(((0, 1, 1), (2, 1, 1)), network.on_the_way())
        self.assert_same(1, network.act(("deliver", 1)))
        self.assert_same(((0, 1, 1), (1, 0, 1)), network.on_the_way())
        self.assertIs(False, network.is_settled())
        self.assert_same(3, network.act(SETTLE))
        self.assert_same(((1, 3), (((1,), 1, 3),)), (network.total(), network.belief(2)))
        self.assert_same(SETTLE, network.undo())
        self.assert_same(((0, 1, 1), (1, 0, 1)), network.on_the_way())
        self.assert_same((("deliver", 1), 1), network.records()[3])

    def test_each_command(self):
        network = network_of(GRAPH, *SETS)
        self.assert_same(((((0,), 1),), (((0, 1), 2),), (((1,), 0),)), network.tables())
        for command, effect, way in ((("double", 0), 1, ((0, 1, 1), (2, 1, 1), (1, 2, 1))),
                                     (("lose", 0), 0, ((2, 1, 1), (1, 2, 1))),
                                     (("resend", 0, 1), 1, ((2, 1, 1), (1, 2, 1), (0, 1, 1))),
                                     (("deliver", 0), 1, ((1, 2, 1), (0, 1, 1), (1, 0, 1))),
                                     (("remove", 0, (0,)), 1, ((1, 2, 1), (0, 1, 1), (1, 0, 1), (0, 1, 2))),
                                     (SETTLE, 5, ()), (("resend", 2, 1), 1, ((2, 1, 1),))):
            self.assert_same(effect, network.act(command))
            self.assert_same(way, network.on_the_way())
            self.assert_same((command, effect), network.records()[-1])
            self.assert_same(command, network.journal()[-1])
        self.assert_same(((), (((0, 1), 2),), (((1,), 0),)), network.tables())
        self.assert_same((True, (0, None)), (network.is_settled(), network.total()))

    def test_by_the_words_of_the_document(self):
        """Also point 119: a network tells what chapter 7 tells of empty tables and its journal."""
        words = set()
        for network, plain, _ in runs(120, 20):
            graph, journal = plain.graph, network.journal()
            effect = effects(graph, nothing(graph), journal)
            self.assert_told(plain_told(plain, journal, effect), network)
            self.assert_same(tables_behind(graph, nothing(graph), journal), network.tables())
            self.assert_same(on_the_way(graph, nothing(graph), journal), network.on_the_way())
            self.assert_same(is_settled(graph, nothing(graph), journal), network.is_settled())
            self.assert_same(beliefs(graph, nothing(graph), journal), told_by(network)[4])
            words |= {(command[0], effect > 0) for command, effect in network.records()}
        self.assertEqual({"set", "remove", "deliver", "double", "resend", "settle"},
                         {word for word, anything in words if anything})
        self.assertEqual(7, len([word for word, anything in words if not anything]))

    def test_wrong_graphs(self):
        self.assert_refuses(Network, (GRAPH,), [("graph", WRONG_GRAPHS)])
        for graph in NOT_TREES:
            self.assert_not_possible("tree", Network, graph)


class ErrorsTest(Case):
    def assert_unchanged(self, network, assertion, *arguments):
        before = told_by(network)
        assertion(*arguments)
        self.assert_same(before, told_by(network))
        twin = network.twin()
        self.assert_same(before, told_by(twin))

    def test_wrong_commands(self):
        wrong = WRONG_ACTIONS + [(SETTLE,), (SETTLE, SETTLE), list(SETTLE)]
        for network in (Network(GRAPH), network_of(GRAPH, *SETS)):
            self.assert_unchanged(network, self.assert_refuses, network.act, (SETTLE,), [("command", wrong)])
        # Rows and nodes are those of the network.
        self.assert_refuses(network_of(BARE).act, (("set", 0, (), 1),), [
            ("command", [("set", 0, (0,), 1), ("remove", 2, ()), ("resend", 0, 2)])])
        self.assert_same(0, Network((3, ((0,),), ())).act(("set", 0, (2,), 1)))

    def test_commands_that_are_not_possible(self):
        for network in (Network(GRAPH), network_of(GRAPH, *SETS), network_of(GRAPH, *SETS, SETTLE)):
            wrong = [("missing", ("remove", 0, (1,))), ("missing", ("remove", 1, (1, 1))),
                     ("neighbour", ("resend", 0, 2)), ("neighbour", ("resend", 1, 1))]
            wrong += [("missing", (word, at)) for word in ("deliver", "double", "lose") for at in (2, 3, 39)]
            for why, command in wrong:
                self.assert_unchanged(network, self.assert_not_possible, why, network.act, command)
        self.assert_not_possible("missing", Network(GRAPH).act, ("deliver", 0))
        self.assert_not_possible("missing", Network(GRAPH).act, ("remove", 0, (0,)))

    def too_large(self, what, network, command):
        self.assert_unchanged(network, self.assert_raises_with, TooLarge, "what", what, network.act, command)

    def test_messages(self):
        network = network_of(STAR, *READY, *FULL)
        self.assert_same(40, len(network.on_the_way()))
        for command in (("set", 0, (), 99), ("remove", 0, ()), ("set", 1, (), 99), ("resend", 0, 4)):
            self.too_large("messages", network, command)
        self.assert_same(0, network.act(("lose", 3)))
        # A message fits in, and one more does not; four do not fit in either, of which one would.
        self.too_large("messages", network, ("set", 0, (), 99))
        self.assert_same(1, network.act(("resend", 0, 4)))
        self.too_large("messages", network, ("resend", 0, 4))
        self.too_large("messages", network, ("set", 1, (), 99))
        self.assert_same(40, network.act(SETTLE))
        self.assert_same(4, network.act(("set", 0, (), 99)))

    def test_messages_of_a_settle(self):
        """What arrives at the middle is told to three others, behind all that is on the way already."""
        network = network_of(STAR, *READY, ("set", 1, (), 99), *FULL[:9], ("resend", 0, 1), ("resend", 0, 2))
        self.assert_same((18, 39), (len(network.journal()), len(network.on_the_way())))
        self.too_large("messages", network, SETTLE)
        self.too_large("messages", network, ("deliver", 0))
        self.assert_same(("resend", 0, 2), network.undo())
        self.assert_same(41, network.act(SETTLE))
        self.assert_same((True, (1, 112)), (network.is_settled(), network.total()))

    def test_twenty_commands(self):
        network = network_of(GRAPH, *SETS, *[SETTLE] * 16)
        self.assert_same(1, network.act(("resend", 0, 1)))
        self.assert_same(20, len(network.journal()))
        for command in (SETTLE, ("set", 0, (0,), 1), ("deliver", 0), ("remove", 0, (0,)), ("resend", 0, 1)):
            self.too_large("commands", network, command)
        # What is wrong, or not possible, is told before that.
        self.assert_unchanged(network, self.assert_not_possible, "missing", network.act, ("deliver", 1))
        self.assert_unchanged(network, self.assert_not_possible, "neighbour", network.act, ("resend", 0, 2))
        for command in (("deliver", 40), ("settle", 0), None, ["settle"]):
            self.assert_unchanged(network, self.assert_raises_with, BadValue, "name", "command", network.act, command)
        self.assert_same(("resend", 0, 1), network.undo())
        self.assert_same(1, network.act(("resend", 0, 1)))
        self.too_large("commands", network, SETTLE)

    def test_messages_ahead_of_commands(self):
        network = network_of(STAR, *READY, *FULL, *[("double", at) for at in range(4)])
        self.assert_same((20, 40), (len(network.journal()), len(network.on_the_way())))
        self.too_large("messages", network, ("resend", 0, 1))
        self.too_large("messages", network, ("set", 3, (), 99))
        for command in (SETTLE, ("deliver", 39), ("lose", 0), ("double", 5), ("set", 0, (), 11)):
            self.too_large("commands", network, command)
        self.assert_unchanged(network, self.assert_not_possible, "neighbour", network.act, ("resend", 1, 2))
        self.assert_unchanged(network, self.assert_raises_with, BadValue, "name", "command", network.act, ("remove", 1))

    def test_wrong_nodes(self):
        for network in (Network(GRAPH), network_of(GRAPH, *SETS)):
            self.assert_unchanged(network, self.assert_refuses, network.belief, (0,), [("node", WRONG_NODES)])
        self.assert_refuses(Network(SINGLE).belief, (0,), [("node", [1, -1, False])])


class TotalTest(Case):
    def test_no_solution(self):
        network = Network(GRAPH)
        self.assert_same((0, None), network.total())
        for command in SETS[:2]:
            network.act(command)
        self.assert_not_possible("settled", network.total)
        network.act(SETTLE)
        self.assert_same((0, None), network.total())

    def test_not_settled(self):
        network = network_of(GRAPH, *SETS)
        for _ in range(3):
            self.assert_not_possible("settled", network.total)
            network.act(("lose", 0) if network.on_the_way() else ("resend", 0, 1))
        self.assert_not_possible("settled", network.total)
        network.act(SETTLE)
        self.assert_same((1, 3), network.total())

    def test_settled_although_something_is_on_the_way(self):
        network = network_of(GRAPH, *SETS, SETTLE, ("resend", 0, 1))
        self.assertIs(True, network.is_settled())
        self.assert_same((((0, 1, 1),), (1, 3)), (network.on_the_way(), network.total()))

    def test_by_the_words_of_the_document(self):
        """Any node can tell it: also point 120."""
        found = set()
        for network, plain, _ in runs(150, 17):
            network.act(SETTLE)
            solutions = plain_solutions(plain.graph, network.tables())
            right = len(solutions), min((cost for _, cost in solutions), default=None)
            self.assert_same(right, network.total())
            for node, scope in enumerate(plain.graph[1]):
                told = network.belief(node)
                self.assert_same(projection(plain.graph, network.tables(), scope), told)
                self.assert_same(right[0], sum(count for _, count, _ in told))
                self.assert_same(right[1], min((least for _, _, least in told), default=None))
            found.add(right)
        self.assertLess(15, len(found))


class UndoTest(Case):
    def test_all_commands(self):
        for network, plain, _ in runs(60, 20):
            journal = network.journal()
            seen = [told_by(Network(plain.graph))]
            again = Network(plain.graph)
            for command in journal:
                again.act(command)
                seen.append(told_by(again))
            for command in journal[::-1]:
                self.assert_same(seen.pop(), told_by(network))
                self.assert_same(command, network.undo())
            self.assert_same(seen.pop(), told_by(network))
            self.assert_same(None, network.undo())
            self.assert_same(told_by(Network(plain.graph)), told_by(network))

    def test_what_is_on_the_way(self):
        network = network_of(GRAPH, *SETS)
        way = network.on_the_way()
        for command in (("lose", 0), ("deliver", 0), ("deliver", 1), ("double", 1), SETTLE, ("resend", 0, 1),
                        ("set", 0, (1,), 5), ("remove", 2, (1,))):
            before = told_by(network)
            network.act(command)
            self.assertNotEqual(way, network.on_the_way(), command)
            self.assert_same(command, network.undo())
            self.assert_same(before, told_by(network))

    def test_other_commands_behind_it(self):
        network = network_of(GRAPH, *SETS)
        network.undo()
        self.assert_same(1, network.act(("set", 2, (1,), 7)))
        self.assert_same(SETS[:2] + (("set", 2, (1,), 7),), network.journal())
        network.act(SETTLE)
        self.assert_same((1, 10), network.total())
        self.assert_same(told_by(network_of(GRAPH, *SETS[:2], ("set", 2, (1,), 7), SETTLE)), told_by(network))

    def test_numbers(self):
        """What is undone leaves no number behind."""
        network = Network(GRAPH)
        for cost in (1, 2, 3):
            network.act(("set", 0, (0,), cost))
            self.assert_same(((0, 1, 1),), network.on_the_way())
            network.undo()
        self.assert_same((), network.on_the_way())


class TwinTest(Case):
    def test_the_same_journal(self):
        for network, _, _ in runs(40, 20):
            before = told_by(network)
            twin = network.twin()
            self.assertIsInstance(twin, Network)
            self.assertIsNot(twin, network)
            self.assert_same(before, told_by(twin))
            self.assert_same(before, told_by(network))

    def test_own_ways(self):
        network = network_of(GRAPH, *SETS)
        before = told_by(network)
        twin = network.twin()
        twin.act(("lose", 0))
        twin.act(("set", 0, (1,), 9))
        self.assert_same(before, told_by(network))
        network.act(SETTLE)
        self.assert_same(SETS + (("lose", 0), ("set", 0, (1,), 9)), twin.journal())
        self.assert_same(((2, 1, 1), (0, 1, 2)), twin.on_the_way())
        self.assert_same((True, False), (network.is_settled(), twin.is_settled()))
        while network.undo():
            pass
        self.assert_same(5, len(twin.journal()))
        self.assert_same((("set", 0, (1,), 9), ("lose", 0)), (twin.undo(), twin.undo()))
        self.assert_same(before, told_by(twin))
        self.assert_same((), network.journal())

    def test_undone_and_done_by_both(self):
        numbers = Numbers(126)
        for network, plain, _ in runs(40, 12):
            twin = network.twin()
            others = twin.twin()
            kept = told_by(others)
            for each in (network, twin):
                for _ in range(4):
                    command = sample_action(numbers, plain.graph)
                    before = told_by(network if each is twin else twin)
                    try:
                        each.act(command)
                    except TableError:
                        each.undo()
                    self.assert_same(before, told_by(network if each is twin else twin))
                    self.assert_same(told_by(network_of(plain.graph, *each.journal())), told_by(each))
            self.assert_same(kept, told_by(others))


class BeliefsTest(Case):
    def test_the_same_tables(self):
        """Point 122: settled networks with the same tables have the same beliefs and the same total."""
        numbers = Numbers(122)
        for network, plain, _ in runs(60, 12):
            network.act(SETTLE)
            other = Network(plain.graph)
            sets = [("set", node, row, cost) for node, table in enumerate(network.tables()) for row, cost in table]
            while sets:
                other.act(sets.pop(numbers.below(len(sets))))
                if not numbers.below(4) and other.on_the_way():
                    other.act((numbers.among(("lose", "deliver", "double")), numbers.below(len(other.on_the_way()))))
                if len(other.journal()) > 17:
                    break
            if not sets:
                other.act(SETTLE)
                self.assert_same(network.tables(), other.tables())
                self.assert_same(told_by(network)[4:6], told_by(other)[4:6])

    def test_lose_and_resend(self):
        """Point 125: they change no belief."""
        many = 0
        for network, plain, numbers in runs(80, 16):
            before = told_by(network)[4]
            for at, _ in enumerate(network.on_the_way()):
                twin = network.twin()
                twin.act(("lose", at))
                self.assert_same(before, told_by(twin)[4])
                many += 1
            for one, other in plain.sent:
                twin = network.twin()
                twin.act(("resend", one, other))
                self.assert_same(before, told_by(twin)[4])
        self.assertLess(30, many)

    def test_arrivals_in_a_settled_network(self):
        """Point 127: nothing that is on the way changes a belief when it arrives."""
        many = 0
        for network, plain, numbers in runs(80, 14):
            if not network.is_settled():
                network.act(SETTLE)
            for one, other in plain.sent:
                if len(network.journal()) < 19:
                    network.act(("resend", one, other))
            before = told_by(network)[4]
            for at, _ in enumerate(network.on_the_way()):
                for word in ("deliver", "double"):
                    twin = network.twin()
                    self.assert_same(0, twin.act((word, at)))
                    self.assert_same(before, told_by(twin)[4])
                    many += 1
        self.assertLess(50, many)

    def test_tables_that_are_settled(self):
        """Point 79 holds for networks, too: tables that were set one row after another lead to true beliefs."""
        numbers = Numbers(79)
        for _ in range(20):
            graph = sample_tree(numbers)
            tables = tuple(table[:3] for table in sample_tables(numbers, graph))
            network = network_of(graph, *[("set", node, row, cost) for node, table in enumerate(tables)
                                          for row, cost in table], SETTLE)
            self.assert_same(tables, network.tables())
            self.assert_same(tuple(projection(graph, tables, scope) for scope in graph[1]), told_by(network)[4])


class ExampleTest(Case):
    def test_point_129(self):
        network = Network(GRAPH)
        self.assert_same([1, 0, 1], [network.act(command) for command in SETS])
