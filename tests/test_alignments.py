"""Points 24, 25 and 26: alignments, prices, and faults of prices that are given."""

import random
import unittest

from caseslive.alignments import align, first_fault, prices, tails_of
from caseslive.processes import Process, windows_of
from tests.helpers import (
    allows_by_trying, free_process, reaches_by_trying, some_process, stops_by_trying,
    tail_by_trying, traces_up_to,
)

NAMES = ["ask", "pay", "send"]
AB = ["a", "b"]


def same_costs(names, leaving, inserting):
    """Costs that are the same for all activities."""
    return {name: leaving for name in names}, {name: inserting for name in names}


def tails_by_trying(process, names):
    """The tails of all traces that the process reaches, in the order of these traces."""
    found = []
    # No way to a tail is longer than there are tails, and there are at most 1 + 3 + 9.
    for trace in traces_up_to(names, 7 if len(names) < 3 else 5):
        if reaches_by_trying(process, trace):
            tail = tail_by_trying(process.size, trace)
            if tail not in found:
                found.append(tail)
    return found


def moves_by_trying(process, names, trace, costs, place, tail):
    """Tuples of a move, its cost, and the place and the tail behind it, as point 25 orders them."""
    def behind(activity):
        return (tail + (activity,))[1:]

    found = []
    if place < len(trace):
        activity = trace[place]
        found.append((("leave", activity), costs[0][activity], place + 1, tail))
        if tail + (activity,) in process.windows:
            found.append((("take", activity), 0, place + 1, behind(activity)))
    for activity in names:
        if tail + (activity,) in process.windows:
            found.append((("insert", activity), costs[1][activity], place, behind(activity)))
    return found


def prices_by_trying(process, names, trace, costs):
    """The prices, lessened from None on until no move tells a smaller one any more."""
    tails, found = tails_of(process, names), {}
    for tail in tails:
        if stops_by_trying(process, tail):
            found[len(trace), tail] = 0
    changed = True
    while changed:
        changed = False
        for place in range(len(trace) + 1):
            for tail in tails:
                for _, cost, *after in moves_by_trying(process, names, trace, costs, place, tail):
                    if tuple(after) in found:
                        price = cost + found[tuple(after)]
                        if found.get((place, tail), price + 1) > price:
                            found[place, tail], changed = price, True
    return [[found.get((place, tail)) for tail in tails] for place in range(len(trace) + 1)]


def distance_by_trying(trace, other, costs):
    """The least cost of leaving and inserting that makes the one trace the other one."""
    if not trace:
        return sum(costs[1][activity] for activity in other)
    if not other:
        return sum(costs[0][activity] for activity in trace)
    found = [costs[0][trace[0]] + distance_by_trying(trace[1:], other, costs),
             costs[1][other[0]] + distance_by_trying(trace, other[1:], costs)]
    if trace[0] == other[0]:
        found.append(distance_by_trying(trace[1:], other[1:], costs))
    return min(found)


def alignments_up_to(process, names, trace, costs, most):
    """All alignments that cost no more, as pairs of the numbers of their moves and the moves."""
    found = []
    waiting = [((), (), 0, 0, tail_by_trying(process.size, []))]
    while waiting:
        order, moves, cost, place, tail = waiting.pop()
        if place == len(trace) and stops_by_trying(process, tail):
            found.append((order, list(moves), cost))
        for move, more, after, behind in moves_by_trying(process, names, trace, costs, place, tail):
            # Leaving first, then taking, then inserting in the order of activities.
            number = {"leave": 0, "take": 1, "insert": 2 + names.index(move[1])}[move[0]]
            if cost + more <= most:
                waiting.append((order + (number,), moves + (move,), cost + more, after, behind))
    return found


def cost_of(moves, costs):
    """What the moves cost together."""
    cost = {"leave": costs[0], "insert": costs[1]}
    return sum(cost[kind][activity] for kind, activity in moves if kind != "take")


def some_questions(seed, many):
    """Tuples of a process, names, a trace and costs."""
    draw, found = random.Random(seed), []
    while len(found) < many:
        names = draw.sample(["b", "a"], draw.randint(1, 2))
        size = draw.choice([1, 2, 2, 3])
        process = some_process(draw, size, names, draw.choice([0.4, 0.6, 0.8]))
        trace = [draw.choice(names) for _ in range(draw.randint(0, 4))]
        costs = tuple({name: draw.choice([1, 1, 2, 5, 9]) for name in names} for _ in range(2))
        found.append((process, names, trace, costs))
    return found


class Tails(unittest.TestCase):
    def test_size_1(self):
        for windows in [[], [("a",)], [("a",), ("b",)]]:
            self.assertEqual(tails_of(Process(1, windows), AB), [()])

    def test_size_2(self):
        process = Process(2, [("<", "b"), ("b", "a"), ("<", "c"), ("c", ">"), ("d", "a")])
        self.assertEqual(tails_of(process, ["a", "b", "c", "d"]), [("<",), ("b",), ("c",), ("a",)])
        self.assertEqual(tails_of(process, ["c", "b", "a", "d"]), [("<",), ("c",), ("b",), ("a",)])

    def test_size_3(self):
        process = Process(3, [("<", "<", "b"), ("<", "<", "a"), ("<", "a", "b"), ("a", "b", "b")])
        self.assertEqual(tails_of(process, AB),
                         [("<", "<"), ("<", "a"), ("<", "b"), ("a", "b"), ("b", "b")])

    def test_no_windows(self):
        self.assertEqual(tails_of(Process(2, []), AB), [("<",)])
        self.assertEqual(tails_of(Process(3, []), AB), [("<", "<")])

    def test_only_names(self):
        process = Process(2, [("<", "z"), ("<", "a"), ("z", "b")])
        self.assertEqual(tails_of(process, AB), [("<",), ("a",)])

    def test_tails_where_the_process_cannot_stop(self):
        self.assertEqual(tails_of(Process(2, [("<", "a"), ("a", "b")]), AB),
                         [("<",), ("a",), ("b",)])

    def test_many_tails(self):
        names = ["a", "b", "c", "d", "e"]
        self.assertEqual(len(tails_of(free_process(3, names), names)), 31)
        self.assertEqual(tails_of(free_process(3, names), names)[5:8],
                         [("<", "e"), ("a", "a"), ("a", "b")])

    def test_more_names_than_5_are_no_error(self):
        names = [chr(ord("a") + number) for number in range(24)]
        windows = [(first, second, third) for first in ["<", *names] for second in ["<", *names]
                   for third in names if second != "<" or first == "<"]
        self.assertEqual(len(tails_of(Process(3, windows), names)), 1 + 24 + 24 * 24)

    def test_kinds(self):
        for names in [AB, tuple(AB)]:
            found = tails_of(Process(2, [["<", "a"]]), names)
            self.assertEqual(found, [("<",), ("a",)])
            self.assertIs(type(found), list)
            self.assertEqual([type(tail) for tail in found], [tuple, tuple])

    def test_against_all_traces(self):
        draw, counts = random.Random(70), set()
        for _ in range(80):
            names = draw.sample(["b", "a"], draw.randint(1, 2))
            process = some_process(draw, draw.choice([1, 2, 3]), names, draw.random())
            found = tails_of(process, names)
            self.assertEqual(found, tails_by_trying(process, names))
            counts.add(len(found))
        self.assertGreater(len(counts), 4)


class Prices(unittest.TestCase):
    def test_where_nothing_can_be_reached(self):
        costs = same_costs(AB, 1, 1)
        for size in [2, 3]:
            self.assertEqual(prices(Process(size, []), AB, ["a", "b"], costs), [[None]] * 3)
            self.assertEqual(prices(Process(size, []), AB, [], costs), [[None]])
        process = Process(2, [("<", "a"), ("a", "a"), ("b", ">")])
        self.assertEqual(prices(process, AB, ["a"], costs), [[None, None], [None, None]])

    def test_of_the_empty_trace(self):
        process = Process(2, [("<", "a"), ("a", "b"), ("b", ">"), ("b", "c")])
        costs = {"a": 1, "b": 1, "c": 1}, {"a": 4, "b": 3, "c": 2}
        self.assertEqual(prices(process, ["a", "b", "c"], [], costs), [[7, 3, 0, None]])
        self.assertEqual(prices(Process(1, []), AB, [], same_costs(AB, 1, 1)), [[0]])

    def test_of_an_allowed_trace(self):
        process = Process(2, windows_of(2, NAMES))
        found = prices(process, NAMES, NAMES, same_costs(NAMES, 9, 9))
        self.assertEqual([row[place] for place, row in enumerate(found)], [0, 0, 0, 0])
        self.assertEqual(found[0], [0, 9, 18, 27])
        self.assertEqual(found[3], [27, 18, 9, 0])

    def test_of_a_trace_that_is_not_allowed(self):
        process = Process(2, [("<", "a"), ("a", "b"), ("b", ">")])
        costs = {"a": 2, "b": 3}, {"a": 5, "b": 7}
        # The tails are those of the empty trace, of a and of a, b.
        self.assertEqual(prices(process, AB, ["b"], costs), [[5, 0, 3], [12, 7, 0]])
        self.assertEqual(prices(process, AB, ["a"], costs), [[7, 9, 2], [12, 7, 0]])

    def test_no_way_from_some_tails(self):
        process = Process(2, [("<", "a"), ("<", "b"), ("a", ">"), ("b", "b")])
        self.assertEqual(prices(process, AB, ["b"], same_costs(AB, 1, 1)),
                         [[2, 1, None], [1, 0, None]])

    def test_costs_of_1_and_of_9(self):
        process = Process(2, windows_of(2, ["a", "b"]))
        self.assertEqual(prices(process, AB, ["b", "a"], same_costs(AB, 1, 9))[0][0], 10)
        self.assertEqual(prices(process, AB, ["b", "a"], same_costs(AB, 9, 1))[0][0], 10)
        self.assertEqual(prices(process, AB, ["b", "a"], same_costs(AB, 9, 9))[0][0], 18)
        self.assertEqual(prices(process, AB, ["b", "a"], same_costs(AB, 1, 1))[0][0], 2)
        costs = {"a": 1, "b": 9}, {"a": 1, "b": 9}
        self.assertEqual(prices(process, AB, ["b", "a"], costs)[0][0], 2)

    def test_a_cheaper_way_with_more_moves(self):
        process = Process(2, [("<", "c"), ("<", "a"), ("a", "a"), ("a", "b"), ("b", ">"),
                              ("c", ">")])
        costs = same_costs("abc", 1, 1)[0], {"a": 1, "b": 2, "c": 9}
        self.assertEqual(prices(process, list("abc"), [], costs)[0][0], 3)

    def test_size_1(self):
        costs = {"a": 3, "b": 2}, {"a": 1, "b": 1}
        self.assertEqual(prices(Process(1, [("a",)]), AB, ["a", "b", "a", "b"], costs),
                         [[4], [4], [2], [2], [0]])

    def test_activities_that_the_process_does_not_know(self):
        process = Process(2, windows_of(2, ["a"]))
        self.assertEqual(prices(process, AB, ["b", "a", "b"], same_costs(AB, 4, 9))[0], [8, 12])

    def test_long_traces(self):
        names = ["a", "b", "c", "d", "e"]
        found = prices(free_process(3, names), names, names * 200, same_costs(names, 1, 1))
        self.assertEqual((len(found), found[0][0], len(found[7])), (1001, 0, 31))

    def test_against_trying(self):
        seen = set()
        for process, names, trace, costs in some_questions(71, 150):
            found = prices(process, names, trace, costs)
            self.assertEqual(found, prices_by_trying(process, names, trace, costs))
            seen.update(price for row in found for price in row)
        self.assertGreater(len(seen), 12)

    def test_against_all_allowed_traces(self):
        finite = 0
        for process, names, trace, costs in some_questions(72, 60):
            trace = trace[:3]
            # A trace that is aligned best is not longer than this for these sizes and names.
            allowed = [other for other in traces_up_to(names, 6)
                       if allows_by_trying(process.size, process.windows, other)]
            found = prices(process, names, trace, costs)[0][0]
            expected = min((distance_by_trying(trace, other, costs) for other in allowed),
                           default=None)
            self.assertEqual(found, expected)
            finite += found is not None
        self.assertGreater(finite, 20)


class Aligning(unittest.TestCase):
    def test_an_allowed_trace(self):
        process = Process(2, windows_of(2, NAMES))
        self.assertEqual(align(process, NAMES, NAMES, same_costs(NAMES, 9, 9)),
                         (0, [("take", "ask"), ("take", "pay"), ("take", "send")]))

    def test_the_empty_trace(self):
        costs = same_costs(AB, 9, 4)
        self.assertEqual(align(Process(1, []), AB, [], costs), (0, []))
        self.assertEqual(align(Process(2, [("<", ">")]), AB, [], costs), (0, []))
        self.assertEqual(align(Process(2, windows_of(2, ["b", "a"])), AB, [], costs),
                         (8, [("insert", "b"), ("insert", "a")]))

    def test_to_the_empty_trace(self):
        costs = {"a": 2, "b": 3}, {"a": 1, "b": 1}
        for size in [1, 2, 3]:
            self.assertEqual(align(Process(size, windows_of(size, [])), AB, ["a", "b", "a"], costs),
                             (7, [("leave", "a"), ("leave", "b"), ("leave", "a")]))

    def test_all_three_kinds(self):
        process = Process(2, windows_of(2, ["ask", "pay", "send"]))
        found = align(process, NAMES, ["ask", "ask", "send"], same_costs(NAMES, 2, 3))
        self.assertEqual(found, (5, [("leave", "ask"), ("take", "ask"), ("insert", "pay"),
                                     ("take", "send")]))

    def test_no_alignment(self):
        costs = same_costs(AB, 1, 1)
        for trace in [[], ["a"], ["a", "b"]]:
            self.assertIsNone(align(Process(2, []), AB, trace, costs))
            self.assertIsNone(align(Process(3, [("<", "<", "a"), ("<", "a", "b")]), AB, trace,
                                    costs))
            self.assertIsNone(align(Process(2, [("<", "c"), ("c", ">")]), AB, trace, costs))

    def test_leaving_comes_before_taking(self):
        # Either `a` can be the one that is left.
        process = Process(2, windows_of(2, ["a"]))
        self.assertEqual(align(process, AB, ["a", "a"], same_costs(AB, 1, 1)),
                         (1, [("leave", "a"), ("take", "a")]))

    def test_leaving_comes_before_inserting(self):
        process = Process(2, windows_of(2, ["b"]))
        self.assertEqual(align(process, AB, ["a"], same_costs(AB, 1, 1)),
                         (2, [("leave", "a"), ("insert", "b")]))
        process = Process(2, windows_of(2, ["a", "b"]))
        self.assertEqual(align(process, AB, ["b", "a"], same_costs(AB, 1, 1)),
                         (2, [("leave", "b"), ("take", "a"), ("insert", "b")]))

    def test_taking_comes_before_inserting(self):
        process = Process(3, windows_of(3, ["a", "a"]))
        self.assertEqual(align(process, AB, ["a"], same_costs(AB, 1, 1)),
                         (1, [("take", "a"), ("insert", "a")]))

    def test_inserting_in_the_order_of_activities(self):
        process = Process(2, [("<", "b"), ("<", "a"), ("<", "c"), ("b", ">"), ("a", ">"),
                              ("c", ">")])
        for names in [["a", "b", "c"], ["b", "c", "a"], ["c", "a", "b"]]:
            self.assertEqual(align(process, names, [], same_costs(names, 1, 2)),
                             (2, [("insert", names[0])]))
        costs = same_costs("abc", 1, 1)[0], {"a": 2, "b": 1, "c": 1}
        self.assertEqual(align(process, ["a", "c", "b"], [], costs), (1, [("insert", "c")]))

    def test_it_ends_where_the_process_can_stop(self):
        process = Process(2, [("<", ">"), ("<", "a"), ("a", "a"), ("a", ">")])
        self.assertEqual(align(process, ["a"], [], same_costs("a", 1, 1)), (0, []))
        self.assertEqual(align(process, ["a"], ["a"], same_costs("a", 1, 1)), (0, [("take", "a")]))

    def test_cost_decides(self):
        process = Process(2, windows_of(2, ["a", "b"]))
        cheap, dear = {"a": 1, "b": 1}, {"a": 9, "b": 9}
        self.assertEqual(align(process, AB, ["b"], (cheap, dear)),
                         (9, [("insert", "a"), ("take", "b")]))
        process = Process(2, [("<", "b"), ("b", "b"), ("b", ">"), ("<", ">")])
        self.assertEqual(align(process, AB, ["b", "a", "b"], (cheap, dear)),
                         (1, [("take", "b"), ("leave", "a"), ("take", "b")]))

    def test_kinds(self):
        found = align(Process(1, [("a",)]), AB, ("a", "b"), same_costs(AB, 1, 1))
        self.assertEqual(found, (1, [("take", "a"), ("leave", "b")]))
        self.assertIs(type(found), tuple)
        self.assertIs(type(found[0]), int)
        self.assertIs(type(found[1]), list)
        self.assertEqual([type(move) for move in found[1]], [tuple, tuple])

    def test_long_traces(self):
        names = ["a", "b"]
        process = Process(3, windows_of(3, list("abab")))
        trace = ["a", "b"] * 1000 + ["b"]
        cost, moves = align(process, names, trace, same_costs(names, 1, 1))
        self.assertEqual((cost, len(moves)), (1, 2001))

    def test_every_alignment_is_one_of_its_trace(self):
        for process, names, trace, costs in some_questions(73, 200):
            found = align(process, names, trace, costs)
            price = prices(process, names, trace, costs)[0][0]
            if found is None:
                self.assertIsNone(price)
                continue
            cost, moves = found
            self.assertEqual((cost, cost_of(moves, costs)), (price, price))
            self.assertEqual([activity for kind, activity in moves if kind != "insert"], trace)
            told = [activity for kind, activity in moves if kind != "leave"]
            self.assertTrue(allows_by_trying(process.size, process.windows, told))

    def test_the_first_one_of_all_that_cost_the_least(self):
        several = 0
        for process, names, trace, costs in some_questions(74, 150):
            found = align(process, names, trace, costs)
            if found is not None and found[0] <= 10:
                every = alignments_up_to(process, names, trace, costs, found[0])
                self.assertEqual({row[2] for row in every}, {found[0]})
                self.assertEqual(min(every)[1], found[1])
                several += len(every) > 1
        self.assertGreater(several, 10)


class Faults(unittest.TestCase):
    def setUp(self):
        self.process = Process(2, [("<", "a"), ("a", "b"), ("b", ">"), ("<", "c"), ("c", "c")])
        self.names = ["a", "b", "c"]
        self.trace = ["b", "c"]
        self.costs = {"a": 2, "b": 3, "c": 4}, {"a": 5, "b": 7, "c": 1}
        self.made = prices(self.process, self.names, self.trace, self.costs)

    def fault(self, given):
        return first_fault(self.process, self.names, self.trace, self.costs, given)

    def changed(self, *changes):
        """The made prices with some of them changed."""
        given = [list(row) for row in self.made]
        for place, tail, price in changes:
            given[place][tail] = price
        return given

    def test_made_prices(self):
        # The tails are those of the empty trace, of a, of c and of a, b.
        self.assertEqual(self.made, [[9, 4, None, 7], [16, 11, None, 4], [12, 7, None, 0]])
        self.assertIsNone(self.fault(self.made))
        self.assertIsNone(self.fault(tuple(tuple(row) for row in self.made)))
        for process, names, trace, costs in some_questions(75, 100):
            made = prices(process, names, trace, costs)
            self.assertIsNone(first_fault(process, names, trace, costs, made))

    def test_lessened_prices(self):
        # What is in front of them is too high then, if it was as high as it could be.
        self.assertIsNone(self.fault(self.changed((0, 0, 8))))
        self.assertEqual(self.fault(self.changed((0, 1, 3))), (0, 0))
        self.assertEqual(self.fault(self.changed((1, 3, 3))), (0, 1))
        self.assertEqual(self.fault(self.changed((2, 1, 6))), (1, 1))
        self.assertIsNone(self.fault([[0] * 4] * 3))
        self.assertIsNone(self.fault([[0] * 4, [0] * 4, [0, 0, None, 0]]))

    def test_raised_prices(self):
        for place in range(3):
            for tail in [0, 1, 3]:
                for more in [1, 100, 10 ** 30]:
                    raised = (place, tail, self.made[place][tail] + more)
                    self.assertEqual(self.fault(self.changed(raised)), (place, tail))

    def test_none_in_the_place_of_a_number(self):
        for place in range(3):
            for tail in [0, 1, 3]:
                self.assertEqual(self.fault(self.changed((place, tail, None))), (place, tail))

    def test_a_number_in_the_place_of_none(self):
        # Behind `c` the process goes on by `c` for ever: 1 more each time, and None from None on.
        self.assertIsNone(self.fault(self.changed((0, 2, 8), (1, 2, 15), (2, 2, 16))))
        for place, fault in [(1, (0, 2)), (2, (1, 2))]:
            self.assertEqual(self.fault(self.changed((place, 2, 50))), fault)
        self.assertIsNone(self.fault(self.changed((0, 2, 50))))
        self.assertEqual(self.fault(self.changed((0, 2, 3))), (0, 0))
        self.assertIsNone(self.fault(self.changed((0, 2, 8))))

    def test_none_everywhere(self):
        # Only where the trace is at its end and the process can stop None is wrong.
        self.assertEqual(self.fault([[None] * 4] * 3), (2, 3))
        process = Process(2, [("<", "a"), ("a", "a")])
        costs = same_costs(["a"], 1, 1)
        self.assertIsNone(first_fault(process, ["a"], ["a"], costs, [[None, None]] * 2))

    def test_numbers_everywhere(self):
        process = Process(2, [("<", "a"), ("a", "a")])
        costs = same_costs(["a"], 1, 1)
        self.assertIsNone(first_fault(process, ["a"], ["a"], costs, [[7, 7], [7, 7]]))
        self.assertIsNone(first_fault(process, ["a"], ["a"], costs, [[8, 7], [7, 9]]))
        self.assertEqual(first_fault(process, ["a"], ["a"], costs, [[9, 7], [9, 9]]), (0, 0))
        self.assertEqual(first_fault(process, ["a"], ["a"], costs, [[6, 8], [9, 6]]), (0, 1))

    def test_0_where_the_process_can_stop_at_the_end(self):
        for price in [1, 5, None]:
            process = Process(2, [("<", ">")])
            self.assertEqual(first_fault(process, ["a"], [], same_costs("a", 1, 1), [[price]]),
                             (0, 0))
        self.assertIsNone(first_fault(Process(2, []), ["a"], [], same_costs("a", 1, 1), [[5]]))

    def test_the_first_place_and_there_the_first_tail(self):
        self.assertEqual(self.fault(self.changed((1, 0, 90), (0, 3, 90))), (0, 3))
        self.assertEqual(self.fault(self.changed((1, 3, 90), (1, 1, 90), (2, 0, 90))), (1, 1))
        self.assertEqual(self.fault(self.changed((2, 3, 90), (2, 0, 90))), (2, 0))
        self.assertEqual(self.fault(self.changed((2, 3, 1), (0, 1, 99))), (0, 1))

    def test_each_kind_of_move_counts(self):
        names = ["a"]
        process, costs = Process(2, windows_of(2, ["a"])), ({"a": 2}, {"a": 3})
        # The tails are those of the empty trace and of a.
        self.assertEqual(prices(process, names, ["a"], costs), [[0, 2], [3, 0]])
        self.assertEqual(first_fault(process, names, ["a"], costs, [[0, 3], [3, 0]]), (0, 1))
        self.assertEqual(first_fault(process, names, ["a"], costs, [[1, 2], [3, 0]]), (0, 0))
        self.assertEqual(first_fault(process, names, ["a"], costs, [[0, 2], [4, 0]]), (1, 0))
        self.assertEqual(first_fault(process, names, ["a"], costs, [[0, 2], [None, 0]]), (1, 0))

    def test_kinds(self):
        found = self.fault(self.changed((1, 0, 90)))
        self.assertIs(type(found), tuple)
        self.assertEqual([type(item) for item in found], [int, int])

    def test_prices_that_hold_are_not_above_the_made_ones(self):
        draw, outcomes = random.Random(76), set()
        for process, names, trace, costs in some_questions(77, 200):
            made = prices(process, names, trace, costs)
            given = [[draw.choice([None, 0, 1, 3, 8]) if draw.random() < 0.2 else price
                      for price in row] for row in made]
            found = first_fault(process, names, trace, costs, given)
            self.assertEqual(found, self.fault_by_trying(process, names, trace, costs, given))
            if found is None and made[0][0] is not None:
                self.assertLessEqual(given[0][0], made[0][0])
            outcomes.add(found is None)
        self.assertEqual(outcomes, {True, False})

    def fault_by_trying(self, process, names, trace, costs, given):
        tails, endless = tails_of(process, names), float("inf")
        told = {(place, tail): endless if price is None else price
                for place, row in enumerate(given) for tail, price in zip(tails, row)}
        for place in range(len(trace) + 1):
            for number, tail in enumerate(tails):
                price = told[place, tail]
                if place == len(trace) and stops_by_trying(process, tail) and price != 0:
                    return place, number
                for _, cost, *after in moves_by_trying(process, names, trace, costs, place, tail):
                    if price > cost + told[tuple(after)]:
                        return place, number
        return None


class Arguments(unittest.TestCase):
    def setUp(self):
        self.windows = [["<", "a"], ["a", "b"], ["b", ">"]]
        self.process = Process(2, self.windows)
        self.names, self.trace = ["b", "a"], ["b", "a"]
        self.costs = [{"a": 1, "b": 2}, {"a": 3, "b": 4}]
        self.expected = [[4, 1, 3], [4, 5, 1], [7, 4, 0]]
        self.moves = [("insert", "a"), ("take", "b"), ("leave", "a")]

    def test_lists_and_tuples(self):
        for names in [self.names, tuple(self.names)]:
            for trace in [self.trace, tuple(self.trace)]:
                for costs in [self.costs, tuple(self.costs)]:
                    self.assertEqual(prices(self.process, names, trace, costs), self.expected)
                    self.assertEqual(align(self.process, names, trace, costs), (4, self.moves))
                    for given in [self.expected, tuple(map(tuple, self.expected))]:
                        self.assertIsNone(first_fault(self.process, names, trace, costs, given))

    def test_by_their_names(self):
        told = {"costs": self.costs, "trace": self.trace, "names": self.names,
                "process": self.process}
        self.assertEqual(prices(**told), self.expected)
        self.assertEqual(align(**told), (4, self.moves))
        self.assertIsNone(first_fault(given=self.expected, **told))
        self.assertEqual(tails_of(names=self.names, process=self.process), [("<",), ("a",), ("b",)])

    def test_nothing_is_modified(self):
        given = [list(row) for row in self.expected]
        align(self.process, self.names, self.trace, self.costs)
        first_fault(self.process, self.names, self.trace, self.costs, given)
        self.assertEqual(given, prices(self.process, self.names, self.trace, self.costs))
        self.assertEqual((self.names, self.trace), (["b", "a"], ["b", "a"]))
        self.assertEqual(self.costs, [{"a": 1, "b": 2}, {"a": 3, "b": 4}])
        self.assertEqual(self.process.windows, tuple(map(tuple, self.windows)))

    def test_the_lists_are_new(self):
        arguments = (self.process, self.names, self.trace, self.costs)
        found = prices(*arguments)
        found[0].clear()
        found.clear()
        self.assertEqual(prices(*arguments), self.expected)
        align(*arguments)[1].clear()
        self.assertEqual(align(*arguments), (4, self.moves))
        tails_of(self.process, self.names).clear()
        self.assertEqual(len(tails_of(self.process, self.names)), 3)
        rows = prices(Process(2, []), AB, ["a", "a"], same_costs(AB, 1, 1))
        rows[0][0] = 5
        self.assertEqual(rows, [[5], [None], [None]])


if __name__ == "__main__":
    unittest.main()
