"""Points 9, 21, 22 and 23: nets, good nodes, what is allowed, and ranks."""

import itertools
import random
import unittest

from caseslive.control import Net
from caseslive.errors import CaseError, NotGood, NotReached, TooLarge
from caseslive.processes import Process
from caseslive.rules import Rule
from tests.helpers import (
    FOUR, WALKS, at_most, capped_rules, counting, free_process, reaches_by_trying, rejecting,
    round_rules, some_process, some_rule, spots_by_trying, state_by_trying, stops_by_trying,
    subsets, tail_by_trying, traces_up_to, windows_by_trying,
)

NAMES = ["ask", "pay", "send"]
AB = ["a", "b"]


def spot_by_trying(process, names, rules, trace):
    """The spot of a trace."""
    states = tuple(state_by_trying(rule, names, trace) for rule in rules)
    return tail_by_trying(process.size, trace), states


def earliest_by_trying(process, names, rules):
    """For each reached spot the earliest trace to it, from all traces, as long as need be."""
    many, found, length = len(spots_by_trying(process, names, rules)), {}, 0
    while len(found) < many:
        for trace in itertools.product(names, repeat=length):
            if reaches_by_trying(process, trace):
                found.setdefault(spot_by_trying(process, names, rules, trace), list(trace))
        length += 1
    return found


def ends_from(node, moves, final):
    """Whether moves, a dict from nodes to lists of nodes, lead from the node to a final one."""
    seen, waiting = {node}, [node]
    while waiting:
        for after in moves[waiting.pop()]:
            if after not in seen:
                seen.add(after)
                waiting.append(after)
    return any(final[other] for other in seen)


def good_by_trying(net, ours):
    """The greatest set of nodes that point 21 tells, from all sets of nodes."""
    nodes, best = range(net.count()), set()
    final = [net.is_final(node) for node in nodes]
    for chosen in subsets(net.count()):
        closed = all(activity in ours or after in chosen
                     for node in chosen for activity, after in net.moves_of(node))
        inside = {node: [after for _, after in net.moves_of(node) if after in chosen]
                  for node in chosen}
        if closed and all(ends_from(node, inside, final) for node in chosen):
            best |= set(chosen)
    return best


def keeps_on(net, ours, start, controller):
    """Whether a controller, a dict from nodes to our activities, keeps the cases of a node on."""
    moves = {node: [after for activity, after in net.moves_of(node)
                    if activity not in ours or activity in controller[node]]
             for node in range(net.count())}
    final = [net.is_final(node) for node in range(net.count())]
    seen, waiting = {start}, [start]
    while waiting:
        for after in moves[waiting.pop()]:
            if after not in seen:
                seen.add(after)
                waiting.append(after)
    return all(ends_from(node, moves, final) for node in seen)


def controllers(net, ours):
    """All controllers that allow the same in each node, whichever trace led to it."""
    choices = []
    for node in range(net.count()):
        possible = [activity for activity, _ in net.moves_of(node) if activity in ours]
        choices.append([tuple(possible[number] for number in numbers)
                        for numbers in subsets(len(possible))])
    return [dict(enumerate(choice)) for choice in itertools.product(*choices)]


def ranks_by_trying(net, good):
    """The ranks of point 23, found by going over them until nothing changes any more."""
    ranks = [0 if node in good and net.is_final(node) else None for node in range(net.count())]
    for _ in range(net.count()):
        for node in good:
            behind = [ranks[after] for _, after in net.moves_of(node) if after in good]
            least = min((rank for rank in behind if rank is not None), default=None)
            if least is not None and not net.is_final(node):
                ranks[node] = least + 1
    return ranks


def holds_by_trying(net, ours, ranks, node):
    """Whether ranks hold at a node."""
    if ranks[node] is None:
        return True
    for activity, after in net.moves_of(node):
        if activity not in ours and ranks[after] is None:
            return False
    smaller = [after for _, after in net.moves_of(node)
               if ranks[after] is not None and ranks[after] < ranks[node]]
    return bool(net.is_final(node) or smaller)


def some_nets(seed, many, most_nodes):
    """Tuples of a net, its process, names, rules and our activities."""
    draw, found = random.Random(seed), []
    while len(found) < many:
        names = draw.sample(["b", "a", "c"], draw.randint(1, 3))
        size = draw.choice([1, 2, 2, 3])
        process = some_process(draw, size, names, draw.choice([0.4, 0.7, 1]))
        rules = [some_rule(draw, names) for _ in range(draw.randint(0, 2))]
        ours = draw.sample(names, draw.randint(0, len(names)))
        net = Net(process, names, rules, ours)
        if net.count() <= most_nodes:
            found.append((net, process, names, rules, ours))
    return found


class Nodes(unittest.TestCase):
    def test_size_1(self):
        net = Net(Process(1, [("a",), ("b",)]), AB, [], [])
        self.assertEqual(net.count(), 1)
        self.assertEqual(net.moves_of(0), [("a", 0), ("b", 0)])
        self.assertIs(net.is_final(0), True)

    def test_size_2(self):
        process = Process(2, [("<", "ask"), ("ask", "send"), ("ask", "pay"), ("pay", "ask"),
                              ("send", ">")])
        net = Net(process, NAMES, [], ["pay"])
        # The tails are those of the empty trace, of ask, of ask, pay and of ask, send.
        self.assertEqual(net.count(), 4)
        self.assertEqual([net.moves_of(node) for node in range(4)],
                         [[("ask", 1)], [("pay", 2), ("send", 3)], [("ask", 1)], []])
        self.assertEqual([net.is_final(node) for node in range(4)], [False, False, False, True])

    def test_size_3(self):
        process = Process(3, [("<", "<", "a"), ("<", "a", "b"), ("a", "b", "a"), ("b", "a", "b"),
                              ("a", "b", ">"), ("b", ">", ">"), ("<", "<", ">"), ("<", ">", ">")])
        net = Net(process, AB, [], AB)
        self.assertEqual([net.moves_of(node) for node in range(net.count())],
                         [[("a", 1)], [("b", 2)], [("a", 3)], [("b", 2)]])
        self.assertEqual([net.is_final(node) for node in range(4)], [True, False, True, False])

    def test_the_order_of_names(self):
        process = Process(2, [("<", "a"), ("<", "b"), ("a", "b")])
        self.assertEqual(Net(process, ["a", "b"], [], []).moves_of(0), [("a", 1), ("b", 2)])
        self.assertEqual(Net(process, ["b", "a"], [], []).moves_of(0), [("b", 1), ("a", 2)])
        self.assertEqual(Net(process, ["b", "a"], [], []).moves_of(2), [("b", 1)])

    def test_earlier_traces_have_smaller_numbers(self):
        # The node of `b`, of length 1, is in front of that of `a`, `a`.
        net = Net(Process(1, [("a",), ("b",)]), AB, [counting(AB, "a", 3, False),
                                                     counting(AB, "b", 2, False)], [])
        traces = [[], ["a"], ["b"], ["a", "a"], ["a", "b"], ["a", "a", "b"]]
        self.assertEqual([net.node_of(trace) for trace in traces], list(range(6)))
        self.assertEqual(net.count(), 6)

    def test_states_of_rules_make_nodes(self):
        process = Process(1, [("a",)])
        net = Net(process, ["a"], [counting(["a"], "a", 3, True)], [])
        self.assertEqual([net.moves_of(node) for node in range(3)],
                         [[("a", 1)], [("a", 2)], [("a", 0)]])
        self.assertEqual(net.count(), 3)

    def test_only_reached_spots(self):
        process = Process(2, [("<", "a"), ("b", "a"), ("b", ">"), ("a", ">")])
        self.assertEqual(Net(process, AB, [], []).count(), 2)
        net = Net(Process(2, []), AB, [Rule([True], [[0, 0]])], AB)
        self.assertEqual((net.count(), net.moves_of(0), net.is_final(0)), (1, [], False))

    def test_only_activities_of_names(self):
        process = Process(2, [("<", "a"), ("<", "z"), ("a", "z"), ("a", ">")])
        net = Net(process, AB, [], [])
        self.assertEqual((net.count(), net.moves_of(0), net.moves_of(1)), (2, [("a", 1)], []))

    def test_final_nodes(self):
        process = Process(2, [("<", "a"), ("a", "a"), ("a", ">"), ("<", ">")])
        net = Net(process, ["a"], [at_most(["a"], "a", 1)], [])
        self.assertEqual([net.is_final(node) for node in range(net.count())], [True, True, False])
        net = Net(process, ["a"], [at_most(["a"], "a", 1), rejecting(["a"], [])], [])
        self.assertEqual([net.is_final(node) for node in range(net.count())], [False, True, False])

    def test_kinds(self):
        net = Net(Process(2, [("<", "a"), ("a", ">")]), ["a"], [at_most(["a"], "a", 1)], ["a"])
        self.assertIs(type(net.count()), int)
        self.assertIs(type(net.node_of([])), int)
        self.assertIs(type(net.moves_of(0)), list)
        self.assertIs(type(net.moves_of(0)[0]), tuple)
        self.assertIs(type(net.allowed([])), list)
        self.assertIs(type(net.ranks()), list)
        for node in range(2):
            self.assertIs(type(net.is_final(node)), bool)
            self.assertIs(type(net.is_good(node)), bool)

    def test_against_all_traces(self):
        counts = set()
        for net, process, names, rules, _ in some_nets(60, 120, 12):
            earliest = earliest_by_trying(process, names, rules)
            order = sorted(earliest.values(), key=lambda trace: (
                len(trace), [names.index(activity) for activity in trace]))
            self.assertEqual([net.node_of(trace) for trace in order], list(range(net.count())))
            numbers = {spot: order.index(trace) for spot, trace in earliest.items()}
            for spot, number in numbers.items():
                trace = earliest[spot]
                moves = [(name, numbers[spot_by_trying(process, names, rules, [*trace, name])])
                         for name in names if reaches_by_trying(process, [*trace, name])]
                self.assertEqual(net.moves_of(number), moves)
                final = stops_by_trying(process, spot[0]) and all(
                    rule.accepting[state] for rule, state in zip(rules, spot[1]))
                self.assertIs(net.is_final(number), final)
            counts.add(net.count())
        self.assertGreater(len(counts), 6)


class NodesOfTraces(unittest.TestCase):
    def setUp(self):
        windows = [("<", "ask"), ("ask", "pay"), ("pay", "ask"), ("pay", "send"), ("send", ">")]
        self.process = Process(2, windows)
        self.net = Net(self.process, NAMES, [], [])

    def test_reached(self):
        for trace, node in [([], 0), (["ask"], 1), (["ask", "pay"], 2), (["ask", "pay", "ask"], 1),
                            (("ask", "pay", "send"), 3), (["ask", "pay"] * 3000 + ["send"], 3)]:
            self.assertEqual(self.net.node_of(trace), node)

    def test_not_reached(self):
        for trace in [["pay"], ["ask", "ask"], ["ask", "send"], ["ask", "pay", "send", "ask"],
                      ["send", "ask", "pay"], ["other"], ["ask", "other"], ["<"], ["ask", ">"]]:
            for kind in [NotReached, CaseError, ValueError]:
                with self.assertRaises(kind):
                    self.net.node_of(trace)

    def test_not_reached_though_the_process_knows_the_end(self):
        process = Process(2, [("<", "a"), ("a", ">"), ("b", "a")])
        with self.assertRaises(NotReached):
            Net(process, AB, [], []).node_of(["b", "a"])

    def test_rules_do_not_stop_a_trace(self):
        net = Net(Process(1, [("a",)]), ["a"], [Rule([False], [[0]])], [])
        self.assertEqual(net.node_of(["a", "a"]), 0)

    def test_against_trying(self):
        for net, process, names, rules, _ in some_nets(61, 60, 30):
            nodes = {}
            for trace in traces_up_to(names, 4):
                if reaches_by_trying(process, trace):
                    spot = spot_by_trying(process, names, rules, trace)
                    self.assertEqual(nodes.setdefault(spot, net.node_of(trace)), net.node_of(trace))
                else:
                    with self.assertRaises(NotReached):
                        net.node_of(trace)
            self.assertEqual(len(set(nodes.values())), len(nodes))


class Limits(unittest.TestCase):
    def test_500_nodes(self):
        process = Process(2, windows_by_trying(2, WALKS))
        net = Net(process, FOUR, capped_rules(), ["a"])
        self.assertEqual(net.count(), 500)
        self.assertEqual(net.ranks().count(None), 0)
        self.assertIsNone(net.first_fault(net.ranks()))

    def test_501_nodes(self):
        for ours in [[], FOUR]:
            for kind in [TooLarge, CaseError]:
                with self.assertRaises(kind):
                    Net(free_process(2, FOUR), FOUR, round_rules(), ours)

    def test_501_nodes_that_are_not_good(self):
        first, second, third = round_rules()
        for accepting in [[False] * 5, [True] + [False] * 4]:
            with self.assertRaises(TooLarge):
                Net(free_process(2, FOUR), FOUR, [Rule(accepting, first.moves), second, third], [])


class Good(unittest.TestCase):
    def good(self, net):
        return [node for node in range(net.count()) if net.is_good(node)]

    def test_all_are_good(self):
        process = Process(2, [("<", "a"), ("a", "a"), ("a", ">")])
        for ours in [[], ["a"]]:
            net = Net(process, ["a"], [], ours)
            self.assertEqual(self.good(net), [0, 1])
            self.assertEqual(net.allowed([]), ours)

    def test_none_is_good(self):
        process = Process(2, [("<", "a"), ("a", "a")])
        for ours in [[], ["a"]]:
            self.assertEqual(self.good(Net(process, ["a"], [], ours)), [])

    def test_others_can_lead_to_where_no_end_is_left(self):
        # The process cannot stop behind `b`, and nothing comes behind it.
        process = Process(2, [("<", "a"), ("a", "a"), ("a", ">"), ("a", "b")])
        for ours in [[], ["a"]]:
            self.assertEqual(self.good(Net(process, AB, [], ours)), [])
        for ours in [["b"], ["a", "b"]]:
            net = Net(process, AB, [], ours)
            self.assertEqual(self.good(net), [0, 1])
            self.assertEqual(net.allowed(["a"]), ours[:-1])

    def test_others_can_lead_around_for_ever_without_an_end(self):
        process = Process(2, [("<", "a"), ("<", ">"), ("a", "b"), ("b", "a")])
        for ours in [[], ["b"]]:
            self.assertEqual(self.good(Net(process, AB, [], ours)), [])
        for ours in [["a"], ["a", "b"]]:
            net = Net(process, AB, [], ours)
            self.assertEqual(self.good(net), [0])
            self.assertEqual(net.allowed([]), [])

    def test_others_may_go_around_where_an_end_stays_possible(self):
        process = Process(2, [("<", "a"), ("a", "a"), ("a", "b"), ("b", ">")])
        for ours in [[], ["a"], ["b"], ["a", "b"]]:
            self.assertEqual(self.good(Net(process, AB, [], ours)), [0, 1, 2])

    def test_the_end_must_be_within_the_good_nodes(self):
        # From `c` others can go on to `b`, behind which is no end; so the way by `c` is none.
        names = ["a", "b", "c"]
        process = Process(2, [("<", "a"), ("a", "c"), ("c", ">"), ("c", "b")])
        net = Net(process, names, [], ["a", "c"])
        self.assertEqual(self.good(net), [])
        net = Net(process, names, [], ["b"])
        self.assertEqual(self.good(net), [0, 1, 2])
        self.assertEqual(net.allowed(["a", "c"]), [])

    def test_rules_that_reject(self):
        names = AB
        process = Process(2, [("<", "a"), ("a", "a"), ("a", "b"), ("b", ">"), ("b", "a")])
        rules = [at_most(names, "a", 2)]
        self.assertEqual(self.good(Net(process, names, rules, ["b"])), [])
        net = Net(process, names, rules, ["a"])
        self.assertEqual(net.allowed([]), ["a"])
        self.assertEqual(net.allowed(["a"]), ["a"])
        self.assertEqual(net.allowed(["a", "a"]), [])
        self.assertEqual(net.allowed(["a", "b", "a", "b"]), [])
        self.assertIs(net.is_good(net.node_of(["a", "a", "a"])), False)

    def test_several_rules(self):
        process = Process(1, [("a",), ("b",)])
        rules = [at_most(AB, "a", 1), at_most(AB, "b", 1)]
        net = Net(process, AB, rules, AB)
        self.assertEqual([net.allowed(trace) for trace in [[], ["a"], ["b"], ["b", "a"]]],
                         [["a", "b"], ["b"], ["a"], []])
        self.assertEqual(self.good(Net(process, AB, rules, ["a"])), [])

    def test_a_final_node_need_not_be_good(self):
        process = Process(2, [("<", ">"), ("<", "a")])
        net = Net(process, ["a"], [], [])
        self.assertEqual((net.is_final(0), net.is_good(0)), (True, False))

    def test_against_all_sets_of_nodes(self):
        seen = set()
        for net, _, _, _, ours in some_nets(62, 250, 8):
            good = good_by_trying(net, ours)
            self.assertEqual(self.good(net), sorted(good))
            seen.add((len(good) == 0, len(good) == net.count()))
        self.assertEqual(seen, {(True, False), (False, True), (False, False)})


class Allowed(unittest.TestCase):
    def setUp(self):
        names = ["a", "b", "c", "d"]
        windows = [("<", "c"), ("<", "a"), ("<", "b"), ("<", "d"), ("a", ">"), ("c", ">"),
                   ("d", ">"), ("a", "b")]
        self.process, self.names = Process(2, windows), names

    def test_just_those_that_lead_to_good_nodes_in_order(self):
        net = Net(self.process, self.names, [], ["c", "b", "a"])
        self.assertEqual(net.allowed([]), ["a", "c"])
        net = Net(self.process, ["d", "c", "b", "a"], [], ["a", "b", "c"])
        self.assertEqual(net.allowed(()), ["c", "a"])

    def test_nothing_is_allowed(self):
        net = Net(self.process, self.names, [], ["c", "b", "a"])
        for trace in [["a"], ["c"], ["d"]]:
            self.assertEqual(net.allowed(trace), [])
        net = Net(Process(2, [("<", "a"), ("a", ">")]), ["a"], [], [])
        self.assertEqual(net.allowed([]), [])

    def test_not_reached(self):
        net = Net(self.process, self.names, [], ["b"])
        for trace in [["c", "a"], ["d", "d"], ["b", "a"]]:
            for kind in [NotReached, CaseError]:
                with self.assertRaises(kind):
                    net.allowed(trace)

    def test_not_good(self):
        net = Net(self.process, self.names, [], ["b"])
        for trace in [["b"], ["a", "b"]]:
            for kind in [NotGood, CaseError]:
                with self.assertRaises(kind):
                    net.allowed(trace)

    def test_not_reached_comes_before_not_good(self):
        net = Net(self.process, self.names, [], [])
        with self.assertRaises(NotGood):
            net.allowed([])
        with self.assertRaises(NotReached):
            net.allowed(["b", "b"])

    def test_against_all_controllers(self):
        checked = 0
        for net, process, names, rules, ours in some_nets(63, 250, 5):
            traces = earliest_by_trying(process, names, rules).values()
            every = controllers(net, ours)
            for trace in traces if len(every) <= 600 else []:
                node = net.node_of(trace)
                keeping = [one for one in every if keeps_on(net, ours, node, one)]
                self.assertIs(net.is_good(node), bool(keeping))
                if keeping:
                    ever = {activity for one in keeping for activity in one[node]}
                    self.assertEqual(set(net.allowed(trace)), ever)
                checked += 1
        self.assertGreater(checked, 300)

    def test_the_allowed_ones_keep_on(self):
        for net, process, names, rules, ours in some_nets(64, 80, 12):
            traces = earliest_by_trying(process, names, rules).values()
            controller = {}
            for trace in traces:
                node = net.node_of(trace)
                controller[node] = net.allowed(trace) if net.is_good(node) else []
            for node in controller:
                if net.is_good(node):
                    self.assertTrue(keeps_on(net, ours, node, controller))


class Ranks(unittest.TestCase):
    def setUp(self):
        # The nodes are those of the empty trace, of a, of b, of a, b and of a, c.
        names = ["a", "b", "c"]
        self.process = Process(3, [("<", "<", "a"), ("<", "<", "b"), ("<", "a", "b"),
                                   ("<", "a", "c"), ("a", "b", ">"), ("b", ">", ">"),
                                   ("<", "b", ">")])
        self.names = names
        self.net = Net(self.process, names, [], ["a", "c"])

    def test_none_0_and_more(self):
        self.assertEqual(self.net.ranks(), [1, 1, 0, 0, None])
        process = Process(2, [("<", "a"), ("a", "b"), ("b", "c"), ("c", ">"), ("c", "a")])
        self.assertEqual(Net(process, self.names, [], []).ranks(), [3, 2, 1, 0])

    def test_a_final_node_has_0_or_none(self):
        process = Process(2, [("<", ">"), ("<", "a")])
        self.assertEqual(Net(process, ["a"], [], ["a"]).ranks(), [0, None])
        self.assertEqual(Net(process, ["a"], [], []).ranks(), [None, None])

    def test_only_good_nodes_are_on_the_way(self):
        # By `b` the end is nearer, but others can spoil it there.
        names = ["a", "b", "c", "d"]
        process = Process(2, [("<", "b"), ("b", ">"), ("b", "d"), ("<", "a"), ("a", "c"),
                              ("c", ">")])
        self.assertEqual(Net(process, names, [], ["b"]).ranks(), [2, 1, None, 0, None])
        self.assertEqual(Net(process, names, [], ["b", "d"]).ranks(), [1, 1, 0, 0, None])

    def test_the_made_ranks_hold(self):
        self.assertIsNone(self.net.first_fault(self.net.ranks()))
        self.assertIsNone(self.net.first_fault(tuple(self.net.ranks())))

    def test_no_rank_at_all_holds(self):
        self.assertIsNone(self.net.first_fault([None] * 5))

    def test_other_ranks_that_hold(self):
        for ranks in [[7, 3, 5, 0, None], [6, 3, 5, 2, None], [1, None, 0, None, None],
                      [None, 1, None, 0, None], [2, None, 1, None, None], [10 ** 30, 1, 1, 0, None]]:
            self.assertIsNone(self.net.first_fault(ranks), ranks)

    def test_smaller_ranks(self):
        self.assertEqual(self.net.first_fault([0, 1, 0, 0, None]), 0)
        self.assertEqual(self.net.first_fault([1, 0, 0, 0, None]), 1)

    def test_equal_ranks_are_not_smaller(self):
        self.assertEqual(self.net.first_fault([1, 1, 1, 1, None]), 0)
        self.assertEqual(self.net.first_fault([1, 0, 0, 0, None]), 1)

    def test_larger_ranks(self):
        self.assertEqual(self.net.first_fault([1, 1, 1, 0, None]), 0)
        self.assertEqual(self.net.first_fault([2, 1, 1, 1, None]), 1)
        self.assertIsNone(self.net.first_fault([2, 1, 0, 0, None]))

    def test_none_where_others_lead_to(self):
        # `b` belongs to others, so its nodes need ranks if those in front of it have some.
        self.assertEqual(self.net.first_fault([2, 1, None, 0, None]), 0)
        self.assertEqual(self.net.first_fault([1, 1, 0, None, None]), 1)
        self.assertIsNone(self.net.first_fault([1, None, 0, 0, None]))

    def test_none_where_only_ours_lead_to(self):
        self.assertIsNone(self.net.first_fault([1, None, 0, None, None]))
        net = Net(self.process, self.names, [], ["a", "b", "c"])
        self.assertIsNone(net.first_fault([2, 1, None, 0, None]))
        self.assertEqual(net.first_fault([2, 1, None, None, None]), 1)

    def test_ranks_for_nodes_from_which_nothing_holds(self):
        for rank in [0, 1, 100]:
            self.assertEqual(self.net.first_fault([1, 1, 0, 0, rank]), 4)
        net = Net(Process(2, [("<", "a"), ("a", "a")]), ["a"], [], ["a"])
        for ranks, fault in [([1, 0], 1), ([1, 1], 0), ([2, 1], 1), ([None, 0], 1), ([0, None], 0)]:
            self.assertEqual(net.first_fault(ranks), fault)

    def test_the_first_of_several_faults(self):
        self.assertEqual(self.net.first_fault([0, 0, 0, 0, 0]), 0)
        self.assertEqual(self.net.first_fault([1, 0, 0, 0, 0]), 1)

    def test_a_final_node_holds_with_any_rank(self):
        net = Net(Process(1, [("a",)]), ["a"], [], [])
        for rank in [0, 1, 50, None]:
            self.assertIsNone(net.first_fault([rank]))

    def test_others_count_at_final_nodes(self):
        net = Net(Process(2, [("<", "a"), ("<", ">")]), ["a"], [], [])
        self.assertEqual(net.first_fault([0, None]), 0)
        net = Net(Process(2, [("<", "a"), ("<", ">")]), ["a"], [], ["a"])
        self.assertIsNone(net.first_fault([0, None]))

    def test_moves_of_others_lead_to_smaller_ranks_too(self):
        net = Net(Process(2, [("<", "a"), ("a", ">")]), ["a"], [], [])
        self.assertEqual(net.ranks(), [1, 0])
        self.assertIsNone(net.first_fault([1, 0]))

    def test_against_trying(self):
        largest = 0
        for net, _, _, _, ours in some_nets(65, 150, 8):
            expected = ranks_by_trying(net, good_by_trying(net, ours))
            self.assertEqual(net.ranks(), expected)
            self.assertIsNone(net.first_fault(net.ranks()))
            largest = max([largest, *[rank for rank in expected if rank is not None]])
        self.assertGreaterEqual(largest, 2)

    def test_faults_against_trying(self):
        draw, seen = random.Random(66), set()
        for net, _, _, _, ours in some_nets(67, 150, 8):
            for _ in range(5):
                ranks = [draw.choice([None, 0, 1, 2, 3]) if draw.random() < 0.4 else rank
                         for rank in net.ranks()]
                faults = [node for node in range(net.count())
                          if not holds_by_trying(net, ours, ranks, node)]
                found = net.first_fault(ranks)
                self.assertEqual(found, faults[0] if faults else None)
                if found is None:
                    for node, rank in enumerate(ranks):
                        self.assertTrue(rank is None or net.is_good(node))
                seen.add(found)
        self.assertLessEqual({None, 0, 1, 2}, seen)


class Arguments(unittest.TestCase):
    def setUp(self):
        self.names, self.ours = ["a", "b"], ["b"]
        self.rules = [at_most(AB, "b", 1)]
        self.process = Process(2, [("<", "a"), ("a", "b"), ("b", "b"), ("b", ">"), ("a", ">")])
        self.net = Net(self.process, self.names, self.rules, self.ours)

    def told(self, net):
        nodes = range(net.count())
        return ([net.moves_of(node) for node in nodes], [net.is_final(node) for node in nodes],
                [net.is_good(node) for node in nodes], net.ranks(), net.allowed(["a"]),
                net.node_of(["a", "b"]))

    def test_changes_of_what_was_passed(self):
        kept = self.told(self.net)
        self.assertEqual(kept[4], ["b"])
        self.names.reverse()
        self.ours.clear()
        self.rules[0].accepting = (False, False, False)
        self.rules[0].moves = ((0, 0), (0, 0), (0, 0))
        self.rules.clear()
        self.process.windows = ()
        self.assertEqual(self.told(self.net), kept)

    def test_changes_of_lists_that_were_returned(self):
        kept = self.told(self.net)
        self.net.moves_of(0).clear()
        self.net.moves_of(1).append(("a", 0))
        self.net.ranks()[0] = None
        self.net.ranks().clear()
        self.net.allowed(["a"]).clear()
        self.assertEqual(self.told(self.net), kept)

    def test_nothing_is_modified(self):
        rule, windows, trace = self.rules[0], self.process.windows, ["a", "b"]
        contents, ranks = (rule.accepting, rule.moves), self.net.ranks()
        self.net.node_of(trace)
        self.net.allowed(trace)
        self.net.first_fault(ranks)
        self.assertEqual((self.names, self.ours, self.rules), (["a", "b"], ["b"], [rule]))
        self.assertEqual((rule.accepting, rule.moves), contents)
        self.assertEqual(self.process.windows, windows)
        self.assertEqual((trace, ranks), (["a", "b"], self.net.ranks()))

    def test_lists_and_tuples(self):
        kept = self.told(self.net)
        net = Net(Process(2, tuple(map(list, self.process.windows))), tuple(self.names),
                  tuple(self.rules), tuple(self.ours))
        self.assertEqual(self.told(net), kept)
        self.assertEqual(net.node_of(("a", "b")), kept[5])
        self.assertEqual(net.allowed(("a",)), ["b"])

    def test_by_their_names(self):
        net = Net(ours=self.ours, rules=self.rules, names=self.names, process=self.process)
        self.assertEqual(self.told(net), self.told(self.net))
        self.assertEqual(net.node_of(trace=["a"]), 1)
        self.assertIsNone(net.first_fault(ranks=net.ranks()))

    def test_two_nets_do_not_share_anything(self):
        kept = self.told(self.net)
        Net(self.process, self.names, self.rules, [])
        self.assertEqual(self.told(self.net), kept)


if __name__ == "__main__":
    unittest.main()
