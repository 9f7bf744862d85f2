"""Points 1 to 8 and 74 to 84: messages that are late, doubled, overtaken and lost, and what they change in the end."""

import itertools

from tabletalk.errors import NotPossible, TooLarge
from tabletalk.late import beliefs, effects, is_action, is_settled, kept, on_the_way, tables_behind
from tabletalk.messages import belief, inconsistent
from tabletalk.projections import projection
from tabletalk.rounds import computed_messages
from tests.support import (BARE, GRAPH, STRANGE, WRONG_GRAPHS, WRONG_TABLES, Case, Numbers, full_tables,
                           plain_reached)
from tests.traffic import (NOT_TREES, OUT, SETTLE, SINGLE, STAR, STAR_TABLES, WRONG_ACTIONS, Plain, possible_actions,
                           sample_action, samples)

TABLES = ((((0,), 1),), (((0, 1), 2),), (((1,), 0),))
FUNCTIONS = (tables_behind, on_the_way, effects, is_settled, beliefs, kept)


class IsActionTest(Case):
    def test_actions(self):
        for action in (("set", 0, (0,), 0), ("set", 0, (1,), 100), ("set", 1, (1, 0), 50), ("remove", 2, (1,)),
                       ("remove", 1, (0, 0)), ("resend", 0, 1), ("resend", 0, 2), ("resend", 1, 1), SETTLE):
            self.assertIs(True, self.assert_leaves_arguments(is_action, GRAPH, action))
        for word in ("deliver", "double", "lose"):
            for at in (0, 1, 38, 39):
                self.assertIs(True, is_action(GRAPH, (word, at)))

    def test_of_another_graph(self):
        three = (3,) + GRAPH[1:]
        self.assertIs(False, is_action(GRAPH, ("set", 0, (2,), 1)))
        self.assertIs(True, is_action(three, ("set", 0, (2,), 1)))
        self.assertIs(True, is_action(BARE, ("set", 1, (), 1)))
        self.assertIs(False, is_action(BARE, ("set", 2, (), 1)))
        self.assertIs(True, is_action(SINGLE, ("resend", 0, 0)))
        self.assertIs(False, is_action(SINGLE, ("resend", 0, 1)))
        self.assertIs(True, is_action(STAR, ("remove", 4, ())))
        self.assertIs(False, is_action(STAR, ("remove", 5, ())))

    def test_any_value_at_all(self):
        for value in WRONG_ACTIONS:
            told = repr(value)
            self.assertIs(False, is_action(GRAPH, value), value)
            self.assertEqual(told, repr(value))

    def test_wrong_arguments(self):
        for value in (SETTLE, None, 0):
            self.assert_refuses(lambda graph: is_action(graph, value), (GRAPH,), [("graph", WRONG_GRAPHS)])
            for graph in NOT_TREES:
                self.assert_not_possible("tree", is_action, graph, value)


class ActionsTest(Case):
    """What each action does, and its effect."""

    def told(self, graph, tables, *actions):
        """The messages on the way behind the actions, and their effects."""
        return on_the_way(graph, tables, actions), effects(graph, tables, actions)

    def test_no_action(self):
        self.assert_same(TABLES, self.assert_leaves_arguments(tables_behind, GRAPH, TABLES, ()))
        self.assert_same(((), ()), self.told(GRAPH, TABLES))
        self.assertIs(True, is_settled(GRAPH, TABLES, ()))
        self.assert_same(computed_messages(GRAPH, TABLES), kept(GRAPH, TABLES, ()))
        self.assert_same((TABLES[0], TABLES[1]), tuple(tuple((row, least - more) for row, _, least in message) for
                                                       message, more in zip(beliefs(GRAPH, TABLES, ()), (2, 1))))
        self.assert_same((((0,), 1, 3),), beliefs(GRAPH, TABLES, ())[0])

    def test_set(self):
        self.assert_same((((2, 1, 1),), (1,)), self.told(GRAPH, TABLES, ("set", 2, (1,), 4)))
        self.assert_same(TABLES[:2] + ((((1,), 4),),), tables_behind(GRAPH, TABLES, (("set", 2, (1,), 4),)))
        self.assert_same(TABLES[:2] + ((((0,), 4), ((1,), 0)),), tables_behind(GRAPH, TABLES, (("set", 2, (0,), 4),)))
        # A row that nobody accepts changes a message nevertheless; the same cost once more changes nothing.
        self.assert_same((((0, 1, 1),), (1,)), self.told(GRAPH, TABLES, ("set", 0, (1,), 9)))
        self.assert_same(((), (0,)), self.told(GRAPH, TABLES, ("set", 0, (0,), 1)))
        # All neighbours are told, in ascending order, of what they share.
        self.assert_same((((1, 0, 1), (1, 2, 1)), (2,)), self.told(GRAPH, TABLES, ("set", 1, (0, 1), 3)))
        self.assert_same(((), (0,)), self.told(GRAPH, TABLES, ("set", 1, (1, 0), 3)))
        self.assert_same((((1, 2, 1),), (1,)), self.told(GRAPH, TABLES, ("set", 1, (0, 0), 3)))

    def test_remove(self):
        self.assert_same((((2, 1, 1),), (1,)), self.told(GRAPH, TABLES, OUT))
        self.assert_same(TABLES[:2] + ((),), tables_behind(GRAPH, TABLES, (OUT,)))
        self.assert_same((((2, 1, 1), (2, 1, 2)), (1, 1)), self.told(GRAPH, TABLES, OUT, ("set", 2, (1,), 0)))
        tables = TABLES[:1] + ((((0, 1), 2), ((1, 0), 0)),) + TABLES[2:]
        self.assert_same(((), (0,)), self.told(GRAPH, tables, ("remove", 1, (1, 0))))

    def test_remove_what_is_not_there(self):
        for actions in ((("remove", 2, (0,)),), (OUT, OUT), (OUT, ("lose", 0), OUT), (("remove", 1, (0, 0)),)):
            for function in FUNCTIONS:
                self.assert_not_possible("missing", function, GRAPH, TABLES, actions)

    def test_deliver(self):
        self.assert_same((((1, 0, 1),), (1, 1)), self.told(GRAPH, TABLES, OUT, ("deliver", 0)))
        self.assert_same(((), (1, 1, 0)), self.told(GRAPH, TABLES, OUT, ("deliver", 0), ("deliver", 0)))
        # The second message overtakes the first one, which changes nothing any more.
        late = OUT, ("set", 2, (1,), 4), ("deliver", 1)
        self.assert_same((((2, 1, 1), (1, 0, 1)), (1, 1, 1)), self.told(GRAPH, TABLES, *late))
        self.assert_same((((1, 0, 1),), (1, 1, 1, 0)), self.told(GRAPH, TABLES, *late, ("deliver", 0)))
        for function in (tables_behind, beliefs, kept, is_settled):
            self.assert_same(function(GRAPH, TABLES, late), function(GRAPH, TABLES, late + (("deliver", 0),)))

    def test_double(self):
        self.assert_same((((2, 1, 1), (1, 0, 1)), (1, 1)), self.told(GRAPH, TABLES, OUT, ("double", 0)))
        again = OUT, ("double", 0), ("double", 0), ("double", 1), ("deliver", 0)
        self.assert_same((((1, 0, 1),), (1, 1, 0, 0, 0)), self.told(GRAPH, TABLES, *again))
        self.assertIs(True, is_settled(GRAPH, TABLES, again))

    def test_lose(self):
        self.assert_same(((), (1, 0)), self.told(GRAPH, TABLES, OUT, ("lose", 0)))
        self.assertIs(False, is_settled(GRAPH, TABLES, (OUT, ("lose", 0))))
        self.assert_same(kept(GRAPH, TABLES, ()), kept(GRAPH, TABLES, (OUT, ("lose", 0))))
        actions = OUT, ("set", 0, (1,), 9), ("lose", 0)
        self.assert_same((((0, 1, 1),), (1, 1, 0)), self.told(GRAPH, TABLES, *actions))

    def test_nothing_at_the_index(self):
        for word in ("deliver", "double", "lose"):
            for actions in (((word, 0),), ((word, 39),), (OUT, (word, 1)), (OUT, (word, 39)),
                            (OUT, ("lose", 0), (word, 0))):
                for function in FUNCTIONS:
                    self.assert_not_possible("missing", function, GRAPH, TABLES, actions)

    def test_resend(self):
        self.assert_same(((), (0,)), self.told(GRAPH, TABLES, ("resend", 0, 1)))
        self.assert_same((((2, 1, 1), (2, 1, 1)), (1, 1)), self.told(GRAPH, TABLES, OUT, ("resend", 2, 1)))
        # It is the message sent last, also where an earlier one is still on the way.
        actions = OUT, ("set", 2, (1,), 4), ("lose", 1), ("resend", 2, 1), ("resend", 1, 2)
        self.assert_same((((2, 1, 1), (2, 1, 2)), (1, 1, 0, 1, 0)), self.told(GRAPH, TABLES, *actions))
        self.assert_same((((0,), 1, 7),), beliefs(GRAPH, TABLES, actions + (SETTLE,))[0])

    def test_resend_to_no_neighbour(self):
        for pair in ((0, 2), (2, 0), (0, 0), (1, 1)):
            for actions in ((("resend", *pair),), (OUT, ("resend", *pair))):
                for function in FUNCTIONS:
                    self.assert_not_possible("neighbour", function, GRAPH, TABLES, actions)
        self.assert_not_possible("neighbour", effects, SINGLE, ((),), (("resend", 0, 0),))

    def test_settle(self):
        self.assert_same(((), (0,)), self.told(GRAPH, TABLES, SETTLE))
        self.assert_same(((), (1, 2)), self.told(GRAPH, TABLES, OUT, SETTLE))
        self.assert_same(((), (1, 0, 2)), self.told(GRAPH, TABLES, OUT, ("lose", 0), SETTLE))
        self.assert_same(((), (1, 0, 2, 0)), self.told(GRAPH, TABLES, OUT, ("lose", 0), SETTLE, SETTLE))
        self.assert_same(((), (0, 0)), self.told(SINGLE, ((),), ("set", 0, (1,), 5), SETTLE))
        # What is on the way for nothing is delivered, too.
        self.assert_same(((), (1, 1, 1, 4)), self.told(GRAPH, TABLES, OUT, ("resend", 2, 1), ("resend", 2, 1), SETTLE))

    def test_settle_sends_along_the_first_direction_first(self):
        star = (2, ((),) * 4, ((0, 1), (1, 2), (1, 3)))
        tables = ((((), 1),),) * 4
        lost = ("lose", 0), ("lose", 0), SETTLE
        # What the node 0 sent comes first. If it is that there is no row, the node 3 hears no news of the node 2.
        actions = ("remove", 0, ()), ("set", 2, (), 5)
        self.assert_same((1, 1, 0, 0, 5), effects(star, tables, actions + lost))
        self.assert_same((1, 1, 0, 0, 5), effects(star, tables, actions[::-1] + lost))
        actions = ("set", 0, (), 5), ("remove", 2, ())
        self.assert_same((1, 1, 0, 0, 6), effects(star, tables, actions + lost))
        self.assert_same((1, 1, 0, 0, 6), effects(star, tables, actions[::-1] + lost))

    def test_one_node(self):
        actions = ("set", 0, (1,), 5), ("set", 0, (0,), 100), ("remove", 0, (1,))
        self.assert_same(((((0,), 100),),), tables_behind(SINGLE, ((),), actions))
        self.assert_same(((((0,), 1, 100),),), beliefs(SINGLE, ((),), actions))
        self.assert_same(((), (0, 0, 0)), self.told(SINGLE, ((),), *actions))
        self.assert_same(((), True), (kept(SINGLE, ((),), actions), is_settled(SINGLE, ((),), actions)))

    def test_settled_although_something_is_on_the_way(self):
        actions = OUT, ("double", 0), ("deliver", 1)
        self.assert_same((((2, 1, 1),), (1, 1, 0)), self.told(GRAPH, TABLES, *actions))
        self.assertIs(True, is_settled(GRAPH, TABLES, actions))


class MostOnTheWayTest(Case):
    """At most 40 messages are on the way: the node 0 of a star sends four at once."""

    FULL = tuple(("set", 0, (), at) for at in range(10))

    def assert_too_large(self, *actions):
        for function in FUNCTIONS:
            self.assert_raises_with(TooLarge, "what", "messages", function, STAR, STAR_TABLES, actions)

    def test_forty(self):
        self.assert_same((4,) * 10, effects(STAR, STAR_TABLES, self.FULL))
        self.assert_same(tuple((0, node, number) for number in range(1, 11) for node in range(1, 5)),
                         on_the_way(STAR, STAR_TABLES, self.FULL))
        self.assert_same((4,) * 10 + (0, 0), effects(STAR, STAR_TABLES, self.FULL + (("deliver", 39), ("double", 38))))

    def test_one_more(self):
        for action in (("set", 0, (), 99), ("remove", 0, ()), ("set", 1, (), 99), ("resend", 0, 4), ("remove", 3, ())):
            self.assert_too_large(*self.FULL, action)
        for action in (("resend", 0, 3), ("set", 1, (), 99)):
            lost = self.FULL + (("lose", 7), action)
            self.assertEqual(40, len(on_the_way(STAR, STAR_TABLES, lost)))
            self.assert_too_large(*lost, action[:1] + action[1:3] + (98,) * (len(action) == 4))

    def test_at_any_moment(self):
        # What arrives is taken away first, or stays: then the node 0 tells the other three of it.
        early = ("set", 1, (), 99)
        many = (early,) + self.FULL[:9]
        self.assert_same(37, len(on_the_way(STAR, STAR_TABLES, many)))
        self.assert_same(39, len(on_the_way(STAR, STAR_TABLES, many + (("deliver", 0),))))
        self.assert_same(40, len(on_the_way(STAR, STAR_TABLES, many + (("double", 0),))))
        self.assert_same((40, 3), (len(on_the_way(STAR, STAR_TABLES, many + (("resend", 0, 1), ("deliver", 0)))),
                                   effects(STAR, STAR_TABLES, many + (("resend", 0, 1), ("deliver", 0)))[-1]))
        self.assert_too_large(*many, ("resend", 0, 1), ("double", 0))
        self.assert_too_large(*many, ("resend", 0, 1), ("resend", 0, 1), ("deliver", 0))

    def test_settle(self):
        early = [("set", 1, (), cost) for cost in (96, 97, 98, 99)]
        self.assert_same((1,) + (4,) * 9 + (1, 41), effects(STAR, STAR_TABLES, (
            early[0], *self.FULL[:9], ("resend", 0, 1), SETTLE)))
        self.assert_too_large(early[0], *self.FULL[:9], ("resend", 0, 1), ("resend", 0, 2), SETTLE)
        self.assert_too_large(*early[:2], *self.FULL[:9], SETTLE)
        self.assert_too_large(*early, *self.FULL[:9], SETTLE)
        self.assert_same(0, len(on_the_way(STAR, STAR_TABLES, (*self.FULL, SETTLE))))

    def test_the_first_error(self):
        self.assert_too_large(*self.FULL, ("set", 0, (), 99), ("deliver", 39), ("resend", 1, 2))
        self.assert_too_large(*self.FULL, ("resend", 0, 1), ("remove", 1, ()), ("remove", 1, ()))
        for actions, why in (((("resend", 1, 2), *self.FULL, ("set", 0, (), 99)), "neighbour"),
                             ((("deliver", 0), *self.FULL, ("set", 0, (), 99)), "missing"),
                             ((("deliver", 0), ("resend", 1, 2)), "missing"),
                             ((("resend", 1, 2), ("deliver", 0)), "neighbour")):
            for function in FUNCTIONS:
                self.assert_not_possible(why, function, STAR, STAR_TABLES, actions)


class WordsTest(Case):
    """All by the words of the document, with actions of any kind."""

    def test_possible_actions(self):
        counted = {}
        for graph, tables, actions, plain, told in samples(200, 16):
            self.assert_same(told, effects(graph, tables, actions))
            self.assert_same(plain.present(), tables_behind(graph, tables, actions))
            self.assert_same(tuple(pair + (number,) for pair, (number, _) in plain.way),
                             on_the_way(graph, tables, actions))
            self.assert_same(plain.is_settled(), is_settled(graph, tables, actions))
            self.assert_same(plain.beliefs(), beliefs(graph, tables, actions))
            self.assert_same(plain.messages(), kept(graph, tables, actions))
            for action, effect in zip(actions, told):
                counted[action[0]] = counted.get(action[0], 0) + (effect > 0 or action[0] == "lose")
        self.assertLess(10, min(counted.values()))
        self.assertEqual(7, len(counted))

    def test_actions_that_are_not_possible(self):
        numbers = Numbers(77)
        found = {}
        for graph, tables, actions, _, _ in samples(120, 6):
            actions = actions + tuple(sample_action(numbers, graph) for _ in range(8))
            plain = Plain(graph, tables)
            error = None
            for at, action in enumerate(actions):
                try:
                    plain.act(action)
                except NotPossible as wrong:
                    error = at, wrong.why
                    break
            if error is not None:
                found[error[1]] = found.get(error[1], 0) + 1
                for function in FUNCTIONS:
                    self.assert_not_possible(error[1], function, graph, tables, actions)
                    function(graph, tables, actions[:error[0]])
        self.assertLess(40, found["missing"])
        self.assertLess(3, found["neighbour"])

    def test_twenty_actions(self):
        for graph, tables, actions, plain, told in samples(10, 0):
            numbers = Numbers(len(graph[1]))
            actions, plain, told = possible_actions(numbers, graph, tables, 20)
            self.assert_same(told, effects(graph, tables, actions))
            self.assert_same(plain.beliefs(), beliefs(graph, tables, actions))


class SettledTest(Case):
    def assert_true(self, graph, tables, actions):
        """Point 79: the kept messages are the computed ones, all nodes are consistent and each belief is true."""
        behind = tables_behind(graph, tables, actions)
        told = kept(graph, tables, actions)
        self.assert_same(computed_messages(graph, behind), told)
        self.assert_same((), inconsistent(graph, behind, told))
        nodes = range(len(graph[1]))
        self.assert_same(tuple(projection(graph, behind, graph[1][node]) for node in nodes),
                         beliefs(graph, tables, actions))
        self.assert_same(tuple(belief(graph, behind, told, node) for node in nodes), beliefs(graph, tables, actions))

    def test_whatever_arrived(self):
        """Point 79."""
        found = [0, 0]
        for graph, tables, actions, _, _ in samples(120):
            settled = is_settled(graph, tables, actions)
            found[settled] += 1
            if settled:
                self.assert_true(graph, tables, actions)
        self.assertLess(30, min(found))

    def test_behind_a_settle(self):
        """Point 82: nothing is on the way, the tables are settled, and they are as they were before it."""
        for graph, tables, actions, _, _ in samples(100):
            behind = actions + (SETTLE,)
            self.assert_same((), on_the_way(graph, tables, behind))
            self.assertIs(True, is_settled(graph, tables, behind))
            self.assert_same(tables_behind(graph, tables, actions), tables_behind(graph, tables, behind))
            self.assert_true(graph, tables, behind)
            self.assert_same(0, effects(graph, tables, behind + (SETTLE,))[-1])

    def test_actions_that_change_no_table(self):
        """Point 82: whatever they are, they lead to the same beliefs once they are followed by a "settle"."""
        numbers = Numbers(82)
        many = 0
        for graph, tables, actions, _, _ in samples(80, 7):
            right = beliefs(graph, tables, actions + (SETTLE,))
            for _ in range(3):
                more = ()
                for _ in range(8):
                    action = sample_action(numbers, graph)
                    if action[0] in ("set", "remove"):
                        continue
                    try:
                        effects(graph, tables, actions + more + (action,))
                    except (NotPossible, TooLarge):
                        continue
                    more = more + (action,)
                self.assert_same(right, beliefs(graph, tables, actions + more + (SETTLE,)))
                many += len(more)
        self.assertLess(300, many)

    def test_different_messages(self):
        """Point 80: no more than "set" and "remove" on the side of the node that sends."""
        found = 0
        for graph, tables, actions, _, _ in samples(80):
            for order in (actions, actions + (SETTLE,)):
                plain = Plain(graph, tables)
                for action in order:
                    plain.act(action)
                self.assert_same(plain.messages(), kept(graph, tables, order))
                for (one, other), many in plain.different.items():
                    side = plain_reached(graph, [node for node in range(len(graph[1])) if node != other], one)
                    changes = [action for action in order if action[0] in ("set", "remove") and action[1] in side]
                    self.assertLessEqual(many, len(changes))
                    found += many
        self.assertLess(200, found)

    def test_numbers_on_the_way(self):
        """Point 81: one number means one message, and kept ones change nothing when they arrive once more."""
        found = 0
        for graph, tables, actions, plain, _ in samples(80):
            meant = {}
            for pair, (number, message) in plain.way:
                self.assertEqual(message, meant.setdefault((pair, number), message))
            for at, (node, other, number) in enumerate(on_the_way(graph, tables, actions)):
                if number <= plain.kept[node, other][0]:
                    again = actions + (("double", at),)
                    for function in (tables_behind, on_the_way, is_settled, beliefs, kept):
                        self.assert_same(function(graph, tables, actions), function(graph, tables, again))
                    self.assert_same(0, effects(graph, tables, again)[-1])
                    found += 1
        self.assertLess(20, found)

    def test_all_sequences_of_arrivals(self):
        """Three messages along one direction, and one along another one, in every sequence."""
        actions = tuple(("set", 2, (1,), cost) for cost in (3, 2, 1)) + (("set", 0, (0,), 9),)
        right = beliefs(GRAPH, TABLES, actions + (SETTLE,))
        for order in itertools.permutations(range(4)):
            left, delivered = list(range(4)), ()
            for item in order:
                delivered += (("deliver", left.index(item)),)
                left.remove(item)
            behind = actions + delivered
            self.assert_same(right, beliefs(GRAPH, TABLES, behind + (SETTLE,)))
            self.assert_same((((1,), 1, 1),), kept(GRAPH, TABLES, behind)[3])


class ArgumentsTest(Case):
    def test_no_argument_is_changed(self):
        actions = (OUT, ("set", 2, (1,), 4), ("deliver", 1), ("deliver", 0), SETTLE)
        for function in FUNCTIONS:
            self.assert_leaves_arguments(function, GRAPH, TABLES, actions)

    def test_wrong_arguments(self):
        wrong = STRANGE + [0, [], [SETTLE], list((OUT, SETTLE)), (SETTLE,) * 21, SETTLE, OUT, "settle", {SETTLE: 0},
                           (SETTLE, None), (SETTLE, [])]
        wrong += [(action,) for action in WRONG_ACTIONS] + [(OUT, OUT, SETTLE, ("set", 0, (0,), 101))]
        for function in FUNCTIONS:
            self.assert_refuses(function, (GRAPH, TABLES, ()), [
                ("graph", WRONG_GRAPHS), ("tables", WRONG_TABLES), ("actions", wrong)])

    def test_twenty_actions_and_one_more(self):
        for function in FUNCTIONS:
            function(GRAPH, TABLES, (SETTLE,) * 20)
            self.assert_refuses(lambda value: function(GRAPH, TABLES, value), ((),), [
                ("actions", [(SETTLE,) * 21, (SETTLE,) * 100, (("remove", 0, (1,)),) * 21])])

    def test_no_junction_tree(self):
        """It is told behind "graph", and ahead of the other arguments."""
        for graph in NOT_TREES:
            for tables in (full_tables(graph, 1), (), None):
                for actions in ((), (SETTLE,), None, (("deliver", 0),)):
                    for function in FUNCTIONS:
                        self.assert_not_possible("tree", function, graph, tables, actions)


class ExampleTest(Case):
    def test_point_84(self):
        self.assert_same(((2, 1, 1),), on_the_way(GRAPH, TABLES, (OUT,)))
        behind = OUT, ("deliver", 0)
        self.assert_same((), beliefs(GRAPH, TABLES, behind)[1])
        self.assert_same(((1, 0, 1),), on_the_way(GRAPH, TABLES, behind))
