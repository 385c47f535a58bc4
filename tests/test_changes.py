"""Points 9, 27 and 28: cases that move to a process, and first differences of processes."""

import random
import unittest

from caseslive.changes import can_move, first_difference
from caseslive.errors import CaseError, TooLarge
from caseslive.processes import Process, windows_of
from caseslive.rules import Rule
from tests.helpers import (
    FOUR, allows_by_trying, at_most, capped_rules, counting, free_process, rejecting, round_rules,
    some_process, some_rule, spots_by_trying, state_by_trying, stops_by_trying, tail_by_trying,
    traces_up_to,
)

NAMES = ["ask", "pay", "send"]
AB = ["a", "b"]


def move_by_trying(process, names, rules, trace):
    """Whether a case can move, from all spots behind the trace."""
    def state(rule):
        return state_by_trying(rule, names, trace)

    start = (tail_by_trying(process.size, trace), tuple(state(rule) for rule in rules))
    seen, waiting = {start}, [start]
    while waiting:
        tail, states = waiting.pop()
        for place, activity in enumerate(names):
            if tail + (activity,) in process.windows:
                moved = tuple(rule.moves[at][place] for rule, at in zip(rules, states))
                spot = ((tail + (activity,))[1:], moved)
                if spot not in seen:
                    seen.add(spot)
                    waiting.append(spot)
    return any(stops_by_trying(process, tail)
               and all(rule.accepting[at] for rule, at in zip(rules, states))
               for tail, states in seen)


def move_over_traces(process, names, rules, trace, length):
    """Whether some trace with so many activities more makes a case an acceptable one."""
    for more in traces_up_to(names, length):
        whole = [*trace, *more]
        # All windows from the tail on; what was before need not be known to the process.
        signs = tail_by_trying(process.size, trace) + tuple(more) + (">",) * (process.size - 1)
        places = range(len(signs) - process.size + 1)
        if all(signs[place:place + process.size] in process.windows for place in places):
            if all(rule.accepting[state_by_trying(rule, names, whole)] for rule in rules):
                return True
    return False


def difference_by_trying(first, second, names, length):
    """The first difference among the traces up to a length."""
    for trace in traces_up_to(names, length):
        if allows_by_trying(first.size, first.windows, trace):
            if not allows_by_trying(second.size, second.windows, trace):
                return trace
    return None


class Moving(unittest.TestCase):
    def setUp(self):
        self.process = Process(2, [("<", "ask"), ("ask", "pay"), ("pay", "send"), ("send", ">"),
                                   ("pay", "pay")])

    def test_from_tails_that_the_process_knows(self):
        for trace in [[], ["ask"], ["ask", "pay"], ["ask", "pay", "pay"], ["ask", "pay", "send"]]:
            self.assertIs(can_move(self.process, NAMES, [], trace), True)

    def test_what_was_before_need_not_be_allowed(self):
        for trace in [["pay"], ["send", "send", "ask"], ["pay", "ask", "send"], ["send"],
                      ["ask"] * 2000]:
            self.assertIs(can_move(self.process, NAMES, [], trace), True)

    def test_from_tails_that_the_process_does_not_know(self):
        process = Process(2, [("<", "a"), ("a", ">"), ("a", "c"), ("c", "c")])
        names = ["a", "b", "c"]
        for trace in [["b"], ["a", "b"], ["a", "a", "b"]]:
            self.assertIs(can_move(process, names, [], trace), False)
        # From `c` on it knows the way, but there is no end.
        self.assertIs(can_move(process, names, [], ["a", "c"]), False)
        self.assertIs(can_move(process, names, [], ["b", "a"]), True)
        self.assertIs(can_move(Process(2, []), names, [], []), False)

    def test_tails_of_size_3(self):
        process = Process(3, [("<", "<", "a"), ("<", "a", "b"), ("a", "b", ">"), ("b", ">", ">"),
                              ("b", "a", "b")])
        for trace, expected in [([], True), (["a"], True), (["b"], False), (["a", "b"], True),
                                (["b", "a"], True), (["b", "b"], False), (["b", "a", "a"], False),
                                (["b", "b", "b", "a"], True)]:
            self.assertIs(can_move(process, AB, [], trace), expected, trace)

    def test_tails_of_size_1(self):
        process = Process(1, [("a",)])
        for trace in [[], ["b"], ["a", "b", "b"]]:
            self.assertIs(can_move(process, AB, [], trace), True)
            self.assertIs(can_move(process, AB, [at_most(AB, "b", 1)], trace), len(trace) < 3)
        self.assertIs(can_move(Process(1, []), AB, [rejecting(AB, ["b"])], ["b"]), False)
        self.assertIs(can_move(process, AB, [rejecting(AB, ["b"])], ["b"]), True)

    def test_an_end_without_another_activity(self):
        process = Process(2, [("a", ">")])
        self.assertIs(can_move(process, AB, [], ["b", "a"]), True)
        self.assertIs(can_move(process, AB, [], []), False)

    def test_rules_accept_the_whole_trace(self):
        # `ask` came twice before, which the process itself does not allow.
        trace = ["ask", "ask"]
        for bound, expected in [(1, False), (2, True), (3, True)]:
            self.assertIs(can_move(self.process, NAMES, [at_most(NAMES, "ask", bound)], trace),
                          expected)

    def test_rules_that_reject_what_comes(self):
        for bound in [0, 1]:
            rules = [at_most(NAMES, "pay", bound)]
            self.assertIs(can_move(self.process, NAMES, rules, ["ask"]), bound == 1)
            self.assertIs(can_move(self.process, NAMES, rules, ["pay", "ask"]), False)
        self.assertIs(can_move(self.process, NAMES, [at_most(NAMES, "pay", 2)], ["pay", "ask"]),
                      True)

    def test_rules_that_are_met_only_later(self):
        # The rule accepts where `pay` came just three times.
        rule = Rule([False] * 3 + [True, False],
                    [[state, min(state + 1, 4), state] for state in range(5)])
        for many, expected in [(1, True), (2, True), (3, True), (4, False)]:
            self.assertIs(can_move(self.process, NAMES, [rule], ["pay"] * many), expected)
        self.assertIs(can_move(self.process, NAMES, [rule], ["pay", "pay", "send"]), False)

    def test_all_rules_must_accept_at_once(self):
        process = Process(2, [("a", "a"), ("a", ">")])
        even, odd = Rule([True, False], [[1], [0]]), Rule([False, True], [[1], [0]])
        self.assertIs(can_move(process, ["a"], [even], ["a"]), True)
        self.assertIs(can_move(process, ["a"], [odd], ["a"]), True)
        self.assertIs(can_move(process, ["a"], [even, odd], ["a"]), False)

    def test_the_order_of_names(self):
        process, rule = Process(1, [("a",)]), Rule([True, False], [[0, 1], [1, 1]])
        self.assertIs(can_move(process, ["a", "b"], [rule], ["b"]), False)
        self.assertIs(can_move(process, ["b", "a"], [rule], ["b"]), True)

    def test_against_trying(self):
        draw, seen = random.Random(80), set()
        for _ in range(250):
            names = draw.sample(["b", "a"], draw.randint(1, 2))
            process = some_process(draw, draw.choice([1, 2, 3]), names, draw.choice([0.3, 0.6]))
            rules = [some_rule(draw, names) for _ in range(draw.randint(0, 2))]
            trace = [draw.choice(names) for _ in range(draw.randint(0, 4))]
            found = can_move(process, names, rules, trace)
            self.assertIs(found, move_by_trying(process, names, rules, trace))
            if not rules:
                # Without rules there are at most seven tails, so no way must be longer.
                self.assertIs(found, move_over_traces(process, names, rules, trace, 6))
            seen.add((process.size, len(rules), found))
        # All that there is, because a process of size 1 can always stop.
        self.assertEqual(len(seen), 17)


class Limits(unittest.TestCase):
    def test_500_spots(self):
        names = FOUR
        process = Process(1, [(name,) for name in names])
        rules = [counting(names, name, many, True) for name, many in zip(names, [5, 5, 5, 4])]
        self.assertEqual(len(spots_by_trying(process, names, rules)), 500)
        self.assertIs(can_move(process, names, rules, ["a", "d", "b"]), True)

    def test_500_spots_that_are_no_end(self):
        process = Process(1, [(name,) for name in FOUR])
        rules = [counting(FOUR, name, many, True) for name, many in zip(FOUR, [5, 5, 5, 4])]
        rules[3] = Rule([False] * 4, rules[3].moves)
        self.assertIs(can_move(process, FOUR, rules, ["a", "d", "b"]), False)

    def test_501_spots(self):
        # From the empty trace on there are 501 spots, from any other one on 500.
        process = free_process(2, FOUR)
        for kind in [TooLarge, CaseError]:
            with self.assertRaises(kind):
                can_move(process, FOUR, round_rules(), [])
        for trace in [["a"], ["d"], ["b", "c"]]:
            self.assertIs(can_move(process, FOUR, round_rules(), trace), True)

    def test_501_spots_where_an_end_is_found_earlier(self):
        process = free_process(2, FOUR)
        self.assertIn(("<", ">"), process.windows)
        with self.assertRaises(TooLarge):
            can_move(process, FOUR, round_rules(), [])

    def test_501_spots_that_are_no_end(self):
        first, second, third = round_rules()
        with self.assertRaises(TooLarge):
            can_move(free_process(2, FOUR), FOUR, [Rule([False] * 5, first.moves), second, third],
                     [])

    def test_a_tail_that_nothing_leads_to_counts(self):
        # Behind `e` come the 500 spots of the other activities, and its own one.
        names = ["a", "b", "c", "d", "e"]
        rules = [counting(names, name, 5, True) for name in "abc"]
        windows = [window for window in free_process(2, names).windows if window[1] != "e"]
        with self.assertRaises(TooLarge):
            can_move(Process(2, windows), names, rules, ["e"])
        self.assertIs(can_move(Process(2, windows), names, rules, ["e", "a"]), True)

    def test_only_spots_behind_the_trace_count(self):
        # The states that a rule has left behind do not count any more.
        process = free_process(2, FOUR)
        first, second, third = capped_rules()
        with self.assertRaises(TooLarge):
            can_move(process, FOUR, [first, second, third], [])
        self.assertIs(can_move(process, FOUR, [first, second, third], ["c"] * 5), True)


class Differences(unittest.TestCase):
    def test_a_process_and_itself(self):
        for size in [1, 2, 3]:
            for windows in [[], windows_of(size, []), windows_of(size, ["a", "b"])]:
                process = Process(size, windows)
                self.assertIsNone(first_difference(process, process, AB))
                self.assertIsNone(first_difference(process, Process(size, windows[::-1]), AB))
            self.assertIsNone(first_difference(free_process(size, AB), free_process(size, AB), AB))

    def test_the_empty_trace(self):
        for size in [1, 2, 3]:
            for other in [2, 3]:
                first, second = Process(size, windows_of(size, [])), Process(other, [])
                self.assertEqual(first_difference(first, second, AB), [])
        first, second = Process(2, [("<", ">")]), Process(2, [("<", "a"), ("a", ">")])
        self.assertEqual(first_difference(first, second, AB), [])
        self.assertEqual(first_difference(second, first, AB), ["a"])

    def test_size_1_allows_the_empty_trace_always(self):
        self.assertIsNone(first_difference(Process(3, windows_of(3, [])), Process(1, []), AB))
        self.assertIsNone(first_difference(Process(1, []), Process(1, [("a",)]), AB))
        self.assertEqual(first_difference(Process(1, [("a",)]), Process(1, []), AB), ["a"])

    def test_one_direction_only(self):
        less = Process(2, windows_of(2, NAMES))
        more = Process(2, [*less.windows, ("pay", ">"), ("send", "pay")])
        self.assertIsNone(first_difference(less, more, NAMES))
        self.assertEqual(first_difference(more, less, NAMES), ["ask", "pay"])

    def test_the_shortest_first(self):
        first = Process(2, [("<", "a"), ("a", "a"), ("a", "b"), ("b", ">"), ("<", "c"), ("c", "c"),
                            ("c", ">")])
        second = Process(2, [("<", "c"), ("c", ">")])
        self.assertEqual(first_difference(first, second, ["a", "b", "c"]), ["a", "b"])
        self.assertEqual(first_difference(first, second, ["c", "b", "a"]), ["c", "c"])

    def test_the_order_of_activities_at_the_first_difference(self):
        first = free_process(3, ["a", "b", "c"])
        windows = [window for window in first.windows
                   if window not in [("<", "b", "a"), ("<", "a", "c"), ("c", "c", "c")]]
        second = Process(3, windows)
        for names, expected in [(["a", "b", "c"], ["a", "c"]), (["b", "a", "c"], ["b", "a"]),
                                (["c", "a", "b"], ["a", "c"]), (["c", "b", "a"], ["b", "a"])]:
            self.assertEqual(first_difference(first, second, names), expected)

    def test_a_late_difference(self):
        first = Process(1, [("a",)])
        second = Process(3, windows_of(3, ["a"]) + [("<", "<", ">"), ("<", ">", ">"),
                                                    ("<", "a", "a"), ("a", "a", ">")])
        self.assertEqual(first_difference(first, second, ["a"]), ["a", "a", "a"])
        self.assertIsNone(first_difference(second, first, ["a"]))

    def test_different_sizes(self):
        trace = ["a", "b", "a"]
        small, large = Process(2, windows_of(2, trace)), Process(3, windows_of(3, trace))
        self.assertEqual(first_difference(small, large, AB), ["a"])
        self.assertIsNone(first_difference(large, small, AB))
        self.assertEqual(first_difference(Process(1, [("a",), ("b",)]), small, AB), [])
        self.assertIsNone(first_difference(small, Process(1, [("a",), ("b",)]), AB))
        self.assertEqual(first_difference(small, Process(1, [("a",)]), AB), ["a", "b", "a"])
        longer = Process(3, windows_of(3, ["a", "b", "a", "b", "a"]))
        self.assertEqual(first_difference(longer, large, AB), ["a", "b", "a", "b", "a"])

    def test_different_sizes_that_allow_the_same(self):
        small = Process(2, windows_of(2, ["a", "b"]))
        large = Process(3, windows_of(3, ["a", "b"]))
        self.assertIsNone(first_difference(small, large, AB))
        self.assertIsNone(first_difference(large, small, AB))

    def test_where_the_second_cannot_go_on_it_does_not_come_back(self):
        # The tail `a` would be known to the second process again.
        first = Process(2, [("<", "b"), ("b", "a"), ("a", ">")])
        second = Process(2, [("<", "a"), ("a", ">")])
        self.assertEqual(first_difference(first, second, AB), ["b", "a"])

    def test_a_process_that_allows_nothing(self):
        for first in [Process(2, []), Process(2, [("<", "a"), ("a", "a")]), Process(3, [])]:
            self.assertIsNone(first_difference(first, Process(2, []), AB))

    def test_only_traces_over_names(self):
        first = Process(2, [("<", "z"), ("z", ">"), ("<", "a"), ("a", ">")])
        second = Process(2, [("<", "a"), ("a", ">")])
        self.assertIsNone(first_difference(first, second, AB))
        self.assertEqual(first_difference(first, second, ["a", "z"]), ["z"])

    def test_many_spots_are_no_error(self):
        names = [chr(ord("a") + number) for number in range(23)]
        signs = ["<", *names]
        windows = [(first, second, third) for first in signs for second in signs
                   for third in [*names, ">"] if second != "<" or first == "<"]
        windows += [(sign, ">", ">") for sign in signs]
        process = Process(3, windows)
        self.assertIsNone(first_difference(process, process, names))

    def test_against_all_traces(self):
        draw, lengths, sizes = random.Random(81), set(), set()
        for _ in range(300):
            names = draw.sample(["b", "a"], draw.randint(1, 2))
            first, second = [some_process(draw, draw.choice([1, 2, 3]), names, part)
                             for part in [0.6, 0.9]]
            found = first_difference(first, second, names)
            if found is None:
                self.assertIsNone(difference_by_trying(first, second, names, 6))
            else:
                self.assertEqual(difference_by_trying(first, second, names, len(found)), found)
            lengths.add(None if found is None else len(found))
            sizes.add((first.size, second.size))
        self.assertLessEqual({None, 0, 1, 2, 3}, lengths)
        self.assertEqual(len(sizes), 9)


class Arguments(unittest.TestCase):
    def test_lists_and_tuples(self):
        rule = at_most(AB, "a", 1)
        process = Process(2, [["<", "a"], ["a", "b"], ["b", ">"]])
        other = Process(2, (("<", "a"), ("a", "b")))
        for kind in [list, tuple]:
            self.assertIs(can_move(process, kind(AB), kind([rule]), kind(["a"])), True)
            self.assertIs(can_move(process, kind(AB), kind([rule]), kind(["a", "a"])), False)
            found = first_difference(process, other, kind(AB))
            self.assertEqual(found, ["a", "b"])
            self.assertIs(type(found), list)

    def test_by_their_names(self):
        process = Process(1, [("a",)])
        self.assertIs(can_move(trace=[], rules=[], names=AB, process=process), True)
        self.assertEqual(first_difference(names=AB, second=Process(1, []), first=process), ["a"])

    def test_nothing_is_modified(self):
        names, trace, rules = ["a", "b"], ["a"], [at_most(AB, "a", 1)]
        process, rule = Process(2, [("<", "a"), ("a", ">")]), rules[0]
        contents = (process.windows, rule.accepting, rule.moves)
        can_move(process, names, rules, trace)
        first_difference(process, Process(1, []), names)
        self.assertEqual((names, trace, rules), (["a", "b"], ["a"], [rule]))
        self.assertEqual((process.windows, rule.accepting, rule.moves), contents)

    def test_the_list_is_new(self):
        first, second = Process(1, [("a",)]), Process(1, [])
        first_difference(first, second, AB).clear()
        self.assertEqual(first_difference(first, second, AB), ["a"])


if __name__ == "__main__":
    unittest.main()
