"""Points 1 to 8 and 118 to 129 as far as they speak of tabletalk.journals: replayed networks, and records."""

from tabletalk.errors import NotPossible, TooLarge
from tabletalk.journals import are_right, replayed
from tabletalk.network import Network
from tests.support import BARE, GRAPH, STRANGE, WRONG_GRAPHS, Case, Numbers, Strange
from tests.test_network import FULL, READY, SETS, network_of, nothing, runs, told_by
from tests.traffic import NOT_TREES, SETTLE, SINGLE, STAR, WRONG_ACTIONS, Plain, sample_action

JOURNAL = SETS + (("deliver", 1), SETTLE)
RECORDS = tuple(zip(JOURNAL, (1, 0, 1, 1, 3)))
WRONG_JOURNALS = STRANGE + [0, [], [SETTLE], SETTLE, "settle", {SETTLE: 0}, (SETTLE,) * 21, (SETTLE,) * 100,
                            list(JOURNAL), JOURNAL + (None,), (JOURNAL,), (("remove", 0, (1,)),) * 21, RECORDS]
WRONG_JOURNALS += [(action,) for action in WRONG_ACTIONS] + [JOURNAL + (action,) for action in WRONG_ACTIONS[:30]]


class ReplayedTest(Case):
    def test_example(self):
        network = self.assert_leaves_journal((2, ((0,),), ()), (("set", 0, (1,), 5),))
        self.assert_same((1, 5), network.total())

    def assert_leaves_journal(self, graph, journal):
        before = repr((graph, journal))
        network = replayed(graph, journal)
        self.assertEqual(before, repr((graph, journal)))
        self.assertIsInstance(network, Network)
        return network

    def test_the_same_as_one_after_another(self):
        self.assert_same(told_by(Network(GRAPH)), told_by(replayed(GRAPH, ())))
        self.assert_same(told_by(network_of(GRAPH, *JOURNAL)), told_by(replayed(GRAPH, JOURNAL)))
        for network, plain, _ in runs(60, 20):
            again = replayed(plain.graph, network.journal())
            self.assert_same(told_by(network), told_by(again))
            again.act(SETTLE) if len(network.journal()) < 20 else again.undo()
            self.assert_same(told_by(replayed(plain.graph, network.journal())), told_by(network))

    def test_undoing_it(self):
        network = replayed(GRAPH, JOURNAL)
        for many in range(5, 0, -1):
            self.assert_same(told_by(replayed(GRAPH, JOURNAL[:many])), told_by(network))
            self.assert_same(JOURNAL[many - 1], network.undo())

    def test_twenty_commands_and_one_more(self):
        network = replayed(GRAPH, (SETTLE,) * 20)
        self.assert_raises_with(TooLarge, "what", "commands", network.act, SETTLE)
        self.assert_refuses(lambda journal: replayed(GRAPH, journal), ((),), [("journal", [(SETTLE,) * 21])])

    def test_commands_that_are_not_possible(self):
        """In the sequence of the commands, behind all that is no journal."""
        for why, command in (("missing", ("deliver", 2)), ("missing", ("remove", 2, (0,))), ("missing", ("lose", 39)),
                             ("missing", ("double", 5)), ("neighbour", ("resend", 0, 2)),
                             ("neighbour", ("resend", 2, 2))):
            for behind in ((), (("resend", 1, 1), ("deliver", 39)), (command,) * 16):
                self.assert_not_possible(why, replayed, GRAPH, SETS + (command,) + behind)
        full = READY + FULL
        for wrong in (("deliver", 39), ("resend", 1, 1), SETTLE):
            journal = full + (("resend", 0, 1), wrong)
            self.assert_raises_with(TooLarge, "what", "messages", replayed, STAR, journal)
        self.assert_not_possible("neighbour", replayed, STAR, full + (("resend", 1, 1), ("resend", 0, 1)))
        self.assert_same(40, len(replayed(STAR, full).on_the_way()))

    def test_wrong_arguments(self):
        self.assert_refuses(replayed, (GRAPH, ()), [("graph", WRONG_GRAPHS), ("journal", WRONG_JOURNALS)])
        # That a command is not possible is told when nothing is wrong.
        self.assert_refuses(lambda journal: replayed(GRAPH, journal), ((),), [
            ("journal", [(("deliver", 0), None), (("resend", 0, 2),) * 21, (("deliver", 0), ("deliver", 40))])])

    def test_no_junction_tree(self):
        for graph in NOT_TREES:
            for journal in ((), (SETTLE,), None, (("deliver", 0),), [], (SETTLE,) * 21):
                self.assert_not_possible("tree", replayed, graph, journal)


class AreRightTest(Case):
    def judged(self, right, graph, records):
        self.assertIs(right, are_right(graph, records), records)

    def test_example(self):
        records = ((("set", 0, (1,), 5), 0), (("settle",), 0))
        self.assertIs(True, self.assert_leaves_arguments(are_right, SINGLE, records))
        self.judged(True, GRAPH, RECORDS)
        self.judged(True, GRAPH, ())
        self.judged(False, GRAPH, records)
        self.judged(True, SINGLE, records[:1] * 20)

    def test_one_effect_changed(self):
        for at, (command, effect) in enumerate(RECORDS):
            for other in (effect + 1, effect - 1, -effect - 1, 0, 1, 2, 3, 40, True, False, None, str(effect),
                          float(effect), (effect,), [effect], Strange()):
                if repr(other) != repr(effect):
                    self.judged(False, GRAPH, RECORDS[:at] + ((command, other),) + RECORDS[at + 1:])

    def test_one_command_changed(self):
        for at, (command, effect) in enumerate(RECORDS):
            for other in (("deliver", 3), ("deliver", 39), ("lose", 5), ("resend", 0, 2), ("remove", 0, (1,)),
                          ("remove", 1, (0, 0))):
                for told in (effect, 0, 1):
                    self.judged(False, GRAPH, RECORDS[:at] + ((other, told),) + RECORDS[at + 1:])
            for other in WRONG_ACTIONS:
                self.judged(False, GRAPH, RECORDS[:at] + ((other, effect),) + RECORDS[at + 1:])
        # What costs more has the same effects, and what is sent to nobody has not.
        self.judged(True, GRAPH, (((SETS[0][:3] + (7,)), 1),) + RECORDS[1:])
        self.judged(False, GRAPH, RECORDS[1:])
        self.judged(False, GRAPH, RECORDS[:1] + RECORDS[2:])
        self.judged(False, GRAPH, RECORDS[:3] + ((("deliver", 0), 1),) + ((SETTLE, 2),))
        self.judged(False, GRAPH, ((SETTLE, 3),) + RECORDS[1:])

    def test_one_form_changed(self):
        command, effect = RECORDS[0]
        for record in (command, (command,), (effect, command), (command, effect, effect), [command, effect], None, 0,
                       "", (), {command: effect}, (command, (effect,)), ((command, effect),), (list(command), effect),
                       Strange(), (Strange(), 1), (command, Strange())):
            self.judged(False, GRAPH, (record,))
            self.judged(False, GRAPH, (record,) + RECORDS[1:])
            self.judged(False, GRAPH, RECORDS + (record,))
        for records in (list(RECORDS), dict(RECORDS), RECORDS[0], JOURNAL, (RECORDS,), iter(RECORDS), "", b"", 0, [],
                        {}, range(0), set()):
            self.judged(False, GRAPH, records)

    def test_any_value(self):
        for value in STRANGE + WRONG_ACTIONS + [JOURNAL, RECORDS * 5, list(RECORDS)]:
            # No record at all is right, and 0 is the effect of a "settle".
            if repr(value) != "()":
                self.judged(False, GRAPH, value)
            if repr(value) != "0":
                self.judged(False, GRAPH, ((SETTLE, value),))
            self.judged(False, GRAPH, (value,))
            self.judged(False, GRAPH, ((value, 0),))
            self.judged(False, GRAPH, RECORDS[:2] + (value,))
        deep = ()
        for _ in range(900):
            deep = (deep, 0)
        self.judged(False, GRAPH, deep)
        self.judged(False, GRAPH, (deep,))
        self.judged(False, GRAPH, ((SETTLE, deep),))
        self.judged(False, GRAPH, ((("set", 0, deep, 1), 1),))

    def test_twenty_records_and_one_more(self):
        record = (SETTLE, 0)
        for many in (1, 19, 20):
            self.judged(True, GRAPH, (record,) * many)
        for many in (21, 22, 100):
            self.judged(False, GRAPH, (record,) * many)
        self.judged(False, GRAPH, (record,) * 19 + ((SETTLE, 1),))
        self.judged(False, GRAPH, (record,) * 19 + ((("deliver", 0), 0),))

    def test_messages(self):
        records = replayed(STAR, READY + FULL).records()
        self.judged(True, STAR, records)
        for record in ((("set", 0, (), 99), 4), (("set", 0, (), 99), 0), (("resend", 0, 1), 1), (("resend", 0, 1), 0)):
            self.judged(False, STAR, records + (record,))
        for record in ((("lose", 0), 0), (SETTLE, 40), (("double", 39), 0), (("set", 0, (), 11), 0)):
            self.judged(True, STAR, records + (record,))

    def test_records_of_networks(self):
        """Point 124: they are right, and no others with these commands are."""
        numbers = Numbers(124)
        for network, plain, _ in runs(80, 20):
            records = network.records()
            self.assert_same(network.journal(), tuple(command for command, _ in records))
            self.judged(True, plain.graph, records)
            if records:
                at = numbers.below(len(records))
                command, effect = records[at]
                for other in (effect + 1, effect - 1, effect == 1):
                    self.judged(False, plain.graph, records[:at] + ((command, other),) + records[at + 1:])

    def test_by_the_words_of_the_document(self):
        """Point 123: commands of any kind, each with an effect that somebody made up."""
        numbers = Numbers(123)
        seen = [0, 0]
        for network, plain, _ in runs(120, 6):
            graph = plain.graph
            records = network.records() + tuple(
                (sample_action(numbers, graph, 2), numbers.below(3)) for _ in range(numbers.below(3)))
            other = Plain(graph, nothing(graph))
            right = True
            for command, effect in records:
                try:
                    right = right and other.act(command) == effect
                except (NotPossible, TooLarge):
                    right = False
            self.judged(right, graph, records)
            seen[right] += 1
        self.assertLess(20, min(seen))

    def test_wrong_arguments(self):
        for value in ((), RECORDS, None, 0):
            self.assert_refuses(lambda graph: are_right(graph, value), (GRAPH,), [("graph", WRONG_GRAPHS)])
            for graph in NOT_TREES:
                self.assert_not_possible("tree", are_right, graph, value)

    def test_other_graphs(self):
        self.judged(False, BARE, RECORDS)
        self.judged(True, BARE, ((("set", 1, (), 5), 1), (("deliver", 0), 0), (("resend", 1, 0), 1)))
        self.judged(False, (3,) + GRAPH[1:], ((("set", 0, (3,), 1), 1),))
        self.judged(True, (3,) + GRAPH[1:], ((("set", 0, (2,), 1), 1),))


class ExampleTest(Case):
    def test_point_129(self):
        self.assert_same((1, 0, 1), tuple(effect for _, effect in replayed(GRAPH, SETS).records()))
