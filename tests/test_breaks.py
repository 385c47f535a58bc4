"""Points 9 and 10: reached spots, how many they may be, and first breaks."""

import itertools
import random
import unittest

from caseslive.breaks import first_break
from caseslive.errors import CaseError, TooLarge
from caseslive.processes import Process, windows_of
from caseslive.rules import Rule
from tests.helpers import (
    FOUR, WALKS, allows_by_trying, at_most, capped_rules, counting, free_process, rejecting,
    round_rules, some_rule, some_windows, spots_by_trying, state_by_trying, traces_up_to,
    windows_by_trying,
)

FIVE = ["a", "b", "c", "d", "e"]


def break_by_trying(process, names, rules, length):
    """The first break among the traces up to a length."""
    for trace in traces_up_to(names, length):
        if allows_by_trying(process.size, process.windows, trace):
            for rule in rules:
                if not rule.accepting[state_by_trying(rule, names, trace)]:
                    return trace
    return None


class FirstBreaks(unittest.TestCase):
    def test_length_0(self):
        names = ["a", "b"]
        for size in [1, 2, 3]:
            process = Process(size, windows_of(size, []))
            self.assertEqual(first_break(process, names, [rejecting(names, [])]), [])
        self.assertEqual(first_break(Process(1, []), ["a"], [Rule([False], [[0]])]), [])

    def test_length_0_is_not_allowed(self):
        names = ["a", "b"]
        for size in [2, 3]:
            process = Process(size, windows_of(size, ["a"]))
            self.assertIsNone(first_break(process, names, [rejecting(names, [])]))

    def test_length_1(self):
        names = ["a", "b"]
        for size in [1, 2, 3]:
            process = Process(size, windows_of(size, ["b"]))
            self.assertEqual(first_break(process, names, [rejecting(names, ["b"])]), ["b"])
            self.assertIsNone(first_break(process, names, [rejecting(names, ["a"])]))

    def test_more_activities(self):
        names = ["ask", "pay", "send"]
        process = Process(2, [("<", "ask"), ("ask", "pay"), ("pay", "ask"), ("pay", "send"),
                              ("send", ">")])
        self.assertEqual(first_break(process, names, [at_most(names, "pay", 2)]),
                         ["ask", "pay", "ask", "pay", "ask", "pay", "send"])
        self.assertEqual(first_break(process, names, [at_most(names, "ask", 0)]),
                         ["ask", "pay", "send"])
        self.assertIsNone(first_break(process, names, [at_most(names, "send", 1)]))

    def test_only_where_the_process_can_stop(self):
        names = ["a", "b"]
        process = Process(2, [("<", "a"), ("a", "a"), ("a", "b"), ("b", ">")])
        self.assertEqual(first_break(process, names, [at_most(names, "a", 1)]), ["a", "a", "b"])
        process = Process(3, [("<", "<", "a"), ("<", "a", "b"), ("a", "b", ">")])
        self.assertIsNone(first_break(process, names, [at_most(names, "a", 0)]))
        self.assertIsNone(first_break(Process(2, []), names, [Rule([False], [[0, 0]])]))

    def test_only_what_the_process_reaches(self):
        process = Process(2, [("<", "a"), ("a", ">"), ("b", ">"), ("b", "b")])
        self.assertIsNone(first_break(process, ["a", "b"], [at_most(["a", "b"], "b", 0)]))

    def test_shorter_traces_are_earlier(self):
        names = ["a", "b"]
        rules = [rejecting(names, ["a", "a"]), rejecting(names, ["b"])]
        self.assertEqual(first_break(free_process(2, names), names, rules), ["b"])
        self.assertEqual(first_break(free_process(3, names), names, rules), ["b"])

    def test_the_order_of_names_decides_at_the_first_difference(self):
        for names in itertools.permutations(["a", "b", "c"]):
            rules = [rejecting(names, [names[1], names[0]]), rejecting(names, [names[0], names[2]]),
                     rejecting(names, [names[0], names[1], names[0]])]
            for chosen in itertools.permutations(rules):
                for size in [1, 2, 3]:
                    found = first_break(free_process(size, names), names, chosen)
                    self.assertEqual(found, [names[0], names[2]])

    def test_one_rule_is_enough(self):
        names = ["a", "b"]
        process = free_process(2, names)
        loose = Rule([True], [[0, 0]])
        for rules in itertools.permutations([loose, at_most(names, "b", 1), loose]):
            self.assertEqual(first_break(process, names, rules), ["b", "b"])

    def test_no_rules(self):
        for size in [1, 2, 3]:
            self.assertIsNone(first_break(free_process(size, FIVE), FIVE, []))
            self.assertIsNone(first_break(Process(size, []), FIVE, ()))

    def test_only_traces_over_names(self):
        process = Process(2, windows_of(2, ["a"]) + windows_of(2, ["z", "y"]))
        self.assertIsNone(first_break(process, ["a"], [at_most(["a"], "a", 1)]))
        self.assertEqual(first_break(process, ["a"], [at_most(["a"], "a", 0)]), ["a"])

    def test_a_long_break(self):
        names = ["a", "b", "c", "d"]
        process = Process(1, [("a",), ("b",), ("c",), ("d",)])
        bounds = [Rule([True] * 5 + [False], [[min(state + 1, 5)] * 4 for state in range(6)])]
        self.assertEqual(first_break(process, names, bounds), ["a"] * 5)
        process = Process(3, windows_of(3, list("aabbccdd")))
        self.assertEqual(first_break(process, names, [at_most(names, "d", 1)]), list("aabbccdd"))

    def test_against_all_traces(self):
        draw, lengths = random.Random(10), set()
        for _ in range(200):
            names = draw.sample(["b", "a"], draw.randint(1, 2))
            size = draw.choice([1, 2, 3])
            windows = some_windows(draw, size, names)
            process = Process(size, windows[:draw.randint(0, len(windows))])
            rules = [some_rule(draw, names) for _ in range(draw.randint(0, 1))]
            rules.append(at_most(names, draw.choice(names), draw.randint(0, 2)))
            found = first_break(process, names, rules)
            if found is None:
                self.assertIsNone(break_by_trying(process, names, rules, 6))
            else:
                self.assertEqual(break_by_trying(process, names, rules, len(found)), found)
            lengths.add(None if found is None else len(found))
        self.assertLessEqual({None, 0, 1, 2, 3}, lengths)


class Limits(unittest.TestCase):
    def test_500_spots(self):
        process, rules = Process(2, windows_by_trying(2, WALKS)), capped_rules()
        self.assertEqual(len(spots_by_trying(process, FOUR, rules)), 500)
        self.assertIsNone(first_break(process, FOUR, rules))

    def test_500_spots_with_a_break(self):
        process = Process(2, windows_by_trying(2, WALKS))
        first, second, third = capped_rules()
        early = Rule([True] + [False] * 4, first.moves)
        late = Rule([True] * 5 + [False], third.moves)
        self.assertEqual(first_break(process, FOUR, [early, second, third]), ["a"])
        self.assertEqual(first_break(process, FOUR, [first, second, late]), ["c"] * 5)

    def test_500_spots_of_size_1(self):
        names = FOUR
        process = Process(1, [(name,) for name in names])
        rules = [counting(names, name, many, True) for name, many in zip(names, [5, 5, 5, 4])]
        self.assertEqual(len(spots_by_trying(process, names, rules)), 500)
        self.assertIsNone(first_break(process, names, rules))
        rules[3] = counting(names, "d", 5, True)
        with self.assertRaises(TooLarge):
            first_break(process, names, rules)

    def test_501_spots(self):
        process = free_process(2, FOUR)
        self.assertEqual(len(spots_by_trying(process, FOUR, round_rules())), 501)
        with self.assertRaises(TooLarge):
            first_break(process, FOUR, round_rules())
        with self.assertRaises(CaseError):
            first_break(process, FOUR, round_rules())

    def test_501_spots_with_a_break_that_is_found_earlier(self):
        process = free_process(2, FOUR)
        first, second, third = round_rules()
        for accepting in [[False] * 5, [True, False, True, True, True]]:
            rules = [Rule(accepting, first.moves), second, third]
            with self.assertRaises(TooLarge):
                first_break(process, FOUR, rules)

    def test_501_spots_that_are_no_breaks(self):
        unstopped = [window for window in free_process(2, FOUR).windows if ">" not in window]
        with self.assertRaises(TooLarge):
            first_break(Process(2, unstopped), FOUR, round_rules())

    def test_spots_that_are_not_reached_do_not_count(self):
        process = Process(2, [window for window in free_process(2, FOUR).windows
                              if window[0] != "<" or window[1] == ">"])
        self.assertIsNone(first_break(process, FOUR, round_rules()))

    def test_tails_and_states_count_together(self):
        names = FIVE
        process = free_process(3, names)
        self.assertEqual(len(spots_by_trying(process, names, [])), 31)
        rules = [counting(names, "a", 4, True), counting(names, "b", 4, True)]
        self.assertGreater(len(spots_by_trying(process, names, rules)), 400)
        self.assertIsNone(first_break(process, names, rules))
        rules[1] = counting(names, "b", 6, True)
        with self.assertRaises(TooLarge):
            first_break(process, names, rules)


class Arguments(unittest.TestCase):
    def test_lists_and_tuples(self):
        rule = Rule([True, False], [[1, 0], [1, 1]])
        process = Process(2, [["<", "b"], ["b", "a"], ["a", ">"]])
        for names in [["a", "b"], ("a", "b")]:
            for rules in [[rule], (rule,)]:
                found = first_break(process, names, rules)
                self.assertEqual(found, ["b", "a"])
                self.assertIs(type(found), list)

    def test_by_their_names(self):
        self.assertIsNone(first_break(rules=[], names=["a"], process=Process(1, [])))

    def test_nothing_is_modified(self):
        names, rules = ["a", "b"], [at_most(["a", "b"], "a", 1)]
        process = free_process(2, names)
        windows, rule = process.windows, rules[0]
        kept = (rule.accepting, rule.moves)
        first_break(process, names, rules)
        self.assertEqual((names, rules), (["a", "b"], [rule]))
        self.assertEqual((process.size, process.windows), (2, windows))
        self.assertEqual((rule.accepting, rule.moves), kept)

    def test_the_list_is_new(self):
        names, process = ["a"], Process(1, [("a",)])
        rules = [at_most(names, "a", 1)]
        found = first_break(process, names, rules)
        found.append("a")
        self.assertEqual(first_break(process, names, rules), ["a", "a"])
        self.assertEqual(found, ["a", "a", "a"])


if __name__ == "__main__":
    unittest.main()
