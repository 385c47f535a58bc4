"""Points 16, 17 and 18: sets of free windows, and what to set aside if nothing fits."""

import itertools
import unittest

from caseslive.choices import greatest_sets, refused_sets, rules_aside, traces_aside
from caseslive.errors import CaseError, TooLarge, TooManyTraces
from caseslive.processes import Process
from caseslive.rules import Rule
from caseslive.settings import Setting
from tests.helpers import (
    FOUR, WALKS, at_most, capped_rules, fitting_by_trying, free_by_trying, is_right_by_trying,
    rejecting, round_rules, some_cases, subsets, windows_by_trying,
)

ABC = ["a", "b", "c"]
ALL_FOUR = [greatest_sets, refused_sets, traces_aside, rules_aside]


def greatest_by_trying(sets):
    """Those that are no proper subset of another one, in order."""
    return sorted(one for one in sets if not any(set(one) < set(other) for other in sets))


def least_by_trying(sets):
    """Those of which no other one is a proper subset, in order."""
    return sorted(one for one in sets if not any(set(other) < set(one) for other in sets))


def traces_by_trying(setting, traces):
    """The sets of traces to set aside."""
    found = []
    for aside in subsets(len(traces)):
        others = [trace for index, trace in enumerate(traces) if index not in aside]
        process = Process(setting.size, windows_by_trying(setting.size, others))
        if is_right_by_trying(process, setting.names, setting.rules):
            found.append(aside)
    return least_by_trying(found)


def rules_by_trying(setting, traces):
    """The sets of rules to set aside."""
    process = Process(setting.size, windows_by_trying(setting.size, traces))
    found = []
    for aside in subsets(len(setting.rules)):
        others = [rule for index, rule in enumerate(setting.rules) if index not in aside]
        if is_right_by_trying(process, setting.names, others):
            found.append(aside)
    return least_by_trying(found)


class FreeWindows(unittest.TestCase):
    def check(self, setting, traces, greatest, refused):
        self.assertEqual(greatest_sets(setting, traces), greatest)
        self.assertEqual(refused_sets(setting, traces), refused)

    def test_everything_fits(self):
        optional = [("a", "b"), ("b", "c"), ("c", "a")]
        self.check(Setting(ABC, 2, [], optional), [["a"]], [(0, 1, 2)], [])
        self.check(Setting(ABC, 2, [at_most(ABC, "b", 0)], optional[1:]), [["a"]], [(0, 1)], [])

    def test_nothing_fits(self):
        setting = Setting(ABC, 2, [at_most(ABC, "a", 1)], [("a", "b"), ("b", "c")])
        self.check(setting, [["a", "a"]], [], [()])
        self.check(Setting(ABC, 2, [at_most(ABC, "a", 1)]), [["a", "a"]], [], [()])

    def test_no_free_windows(self):
        self.check(Setting(ABC, 2, [at_most(ABC, "a", 1)]), [["a"]], [()], [])
        self.check(Setting(ABC, 2, [], [("<", "a"), ("a", ">")]), [["a"]], [()], [])
        self.check(Setting(ABC, 2), [], [()], [])

    def test_only_the_empty_set(self):
        setting = Setting(["a"], 2, [at_most(["a"], "a", 1)], [("a", "a")])
        self.check(setting, [["a"]], [()], [(0,)])

    def test_in_between(self):
        # "a" may not come twice: not by ("a", "a"), nor by ("a", "b") and ("b", "a") together.
        optional = [("a", "b"), ("a", "a"), ("b", "a")]
        setting = Setting(["a", "b"], 2, [at_most(["a", "b"], "a", 1)], optional)
        self.check(setting, [["a"], ["b"]], [(0,), (2,)], [(0, 2), (1,)])

    def test_the_order_of_tuples(self):
        # The refused pairs are 0, 3 and 1, 2.
        names = ["a", "b", "c", "d"]
        rules = [rejecting(names, ["a", "b", "c"]), rejecting(names, ["b", "d", "a"])]
        optional = [("a", "b"), ("b", "d"), ("d", "a"), ("b", "c")]
        setting = Setting(names, 2, rules, optional)
        traces = [["a"], ["b"], ["c"], ["d"]]
        self.check(setting, traces, [(0, 1), (0, 2), (1, 3), (2, 3)], [(0, 3), (1, 2)])
        # A tuple comes before those that it begins, and numbers count before lengths.
        setting = Setting(names, 2, [rejecting(names, ["a", "b", "c"])],
                          [("a", "b"), ("b", "c"), ("c", "d"), ("d", "a")])
        self.check(setting, traces, [(0, 2, 3), (1, 2, 3)], [(0, 1)])
        setting = Setting(names, 2, [at_most(names, "b", 0)],
                          [("<", "a"), ("<", "b"), ("b", "c"), ("c", ">"), ("b", ">")])
        self.check(setting, [], [(0, 1, 2), (0, 1, 3), (0, 2, 3, 4)], [(1, 2, 3), (1, 4)])

    def test_numbers_are_those_of_free_windows(self):
        optional = [("<", "a"), ("a", "a"), ("a", ">"), ("a", "b"), ("b", ">")]
        setting = Setting(["a", "b"], 2, [at_most(["a", "b"], "a", 1)], optional)
        self.check(setting, [["a"]], [(1, 2)], [(0,)])

    def test_no_completed_traces(self):
        setting = Setting(["a"], 2, [at_most(["a"], "a", 0)], [("<", "a"), ("a", ">")])
        self.check(setting, [], [(0,), (1,)], [(0, 1)])
        setting = Setting(["a"], 1, [rejecting(["a"], [])], [("a",)])
        self.check(setting, [], [], [()])

    def test_8_free_windows(self):
        names = FOUR
        optional = list(itertools.product("ab", "cd")) + list(itertools.product("cd", "ab"))
        setting = Setting(names, 2, [Rule([True] * 3 + [False], [[1] * 4, [2] * 4, [3] * 4, [3] * 4])],
                          optional)
        traces = [["a"], ["b"], ["c"], ["d"]]
        fitting = fitting_by_trying(setting, traces)
        others = [numbers for numbers in subsets(8) if numbers not in fitting]
        self.check(setting, traces, greatest_by_trying(fitting), least_by_trying(others))
        self.assertGreater(len(greatest_sets(setting, traces)), 2)

    def test_against_trying(self):
        seen = set()
        for setting, traces in some_cases(50, 150, 5):
            fitting = fitting_by_trying(setting, traces)
            others = [numbers for numbers in subsets(len(free_by_trying(setting, traces)))
                      if numbers not in fitting]
            self.check(setting, traces, greatest_by_trying(fitting), least_by_trying(others))
            seen.add((bool(fitting), bool(others), len(greatest_by_trying(fitting)) > 1))
        self.assertEqual(seen, {(True, False, False), (True, True, False), (True, True, True),
                                (False, True, False)})


class Traces(unittest.TestCase):
    def test_nothing_has_to_be_set_aside(self):
        setting = Setting(ABC, 2, [at_most(ABC, "a", 1)])
        self.assertEqual(traces_aside(setting, [["a"], ["b", "b"]]), [()])
        self.assertEqual(traces_aside(setting, []), [()])
        self.assertEqual(traces_aside(Setting(ABC, 2), [["a", "a"]]), [()])

    def test_free_windows_do_not_matter(self):
        setting = Setting(ABC, 2, [at_most(ABC, "a", 1)], [("a", "a"), ("<", "a"), ("a", ">")])
        self.assertEqual(traces_aside(setting, [["a"]]), [()])

    def test_one_set(self):
        setting = Setting(ABC, 2, [at_most(ABC, "a", 1)])
        self.assertEqual(traces_aside(setting, [["b"], ["a", "a"], ["c"]]), [(1,)])
        self.assertEqual(traces_aside(setting, [["a", "a"], ["b"], ["a", "a", "a"]]), [(0, 2)])

    def test_several_sets(self):
        setting = Setting(ABC, 2, [at_most(ABC, "a", 1)])
        # Only together the first two traces allow `a`, `b`, `a`.
        self.assertEqual(traces_aside(setting, [["a", "b"], ["b", "a"], ["c"]]), [(0,), (1,)])
        self.assertEqual(traces_aside(setting, [["a", "b"], ["b", "a"], ["a", "b", "c"]]),
                         [(0, 2), (1,)])
        self.assertEqual(traces_aside(setting, [["a", "b"], ["c"], ["b", "a"], ["b", "a"]]),
                         [(0,), (2, 3)])

    def test_the_same_trace_twice(self):
        setting = Setting(ABC, 2, [at_most(ABC, "a", 0)])
        self.assertEqual(traces_aside(setting, [["a"], ["b"], ["a"]]), [(0, 2)])

    def test_all_of_them(self):
        setting = Setting(["a"], 2, [Rule([False], [[0]])])
        self.assertEqual(traces_aside(setting, [["a"], [], ["a", "a"]]), [(0, 1, 2)])

    def test_no_set_is_enough(self):
        # A process of size 1 allows the empty trace even if it has no windows.
        setting = Setting(["a"], 1, [rejecting(["a"], [])])
        for traces in [[], [["a"]], [["a"], []]]:
            self.assertEqual(traces_aside(setting, traces), [])

    def test_6_traces(self):
        setting = Setting(ABC, 2, [at_most(ABC, "a", 1)])
        traces = [["a", "b"], ["b", "a"], ["b"], ["c"], ["a", "a"], []]
        self.assertEqual(traces_aside(setting, traces), [(0, 4), (1, 4)])
        self.assertEqual(traces_aside(setting, traces), traces_by_trying(setting, traces))

    def test_7_traces(self):
        setting = Setting(ABC, 2, [at_most(ABC, "a", 1)])
        for traces in [[["a"]] * 7, [["a", "a"]] * 8, [[]] * 7]:
            for kind in [TooManyTraces, CaseError]:
                with self.assertRaises(kind):
                    traces_aside(setting, traces)

    def test_the_others_take_7_traces(self):
        setting = Setting(["a"], 2, [at_most(["a"], "a", 1)], [("a", "a")])
        self.assertEqual(greatest_sets(setting, [["a"]] * 7), [()])
        self.assertEqual(refused_sets(setting, [["a"]] * 7), [(0,)])
        self.assertEqual(rules_aside(setting, [["a", "a"]] * 7), [(0,)])

    def test_against_trying(self):
        seen = set()
        for setting, traces in some_cases(51, 200, 2):
            traces = [*traces, *[trace[::-1] for trace in traces]]
            found = traces_aside(setting, traces)
            self.assertEqual(found, traces_by_trying(setting, traces))
            seen.add((len(found), found == [()]))
        self.assertLessEqual({(0, False), (1, True), (1, False), (2, False)}, seen)


class Rules(unittest.TestCase):
    def test_nothing_has_to_be_set_aside(self):
        self.assertEqual(rules_aside(Setting(ABC, 2), [["a"]]), [()])
        setting = Setting(ABC, 2, [at_most(ABC, "a", 1), at_most(ABC, "b", 0)], [("a", "a")])
        self.assertEqual(rules_aside(setting, [["a"]]), [()])
        self.assertEqual(rules_aside(setting, []), [()])

    def test_some_rules(self):
        rules = [at_most(ABC, "a", 1), at_most(ABC, "b", 1), at_most(ABC, "c", 1)]
        for numbers in subsets(3):
            traces = [[ABC[number]] * 2 for number in numbers]
            self.assertEqual(rules_aside(Setting(ABC, 2, rules), traces), [numbers])

    def test_a_rule_that_is_broken_only_beyond_the_traces(self):
        setting = Setting(ABC, 2, [at_most(ABC, "a", 3), at_most(ABC, "b", 1)])
        self.assertEqual(rules_aside(setting, [["a", "b", "a"]]), [(0, 1)])

    def test_rules_broken_at_different_lengths(self):
        setting = Setting(["a"], 2, [at_most(["a"], "a", 4), rejecting(["a"], ["a"])])
        self.assertEqual(rules_aside(setting, [["a", "a"]]), [(0, 1)])

    def test_size_1(self):
        setting = Setting(["a"], 1, [rejecting(["a"], []), rejecting(["a"], ["a"])], [("a",)])
        self.assertEqual(rules_aside(setting, []), [(0,)])
        self.assertEqual(rules_aside(setting, [["a"]]), [(0, 1)])

    def test_against_trying(self):
        seen = set()
        for setting, traces in some_cases(52, 200, 2):
            found = rules_aside(setting, traces)
            self.assertEqual(found, rules_by_trying(setting, traces))
            seen.add(found[0])
        self.assertEqual(seen, {(), (0,), (1,), (0, 1)})


class Limits(unittest.TestCase):
    def test_500_spots(self):
        setting = Setting(FOUR, 2, capped_rules())
        self.assertEqual(greatest_sets(setting, WALKS), [()])
        self.assertEqual(refused_sets(setting, WALKS), [])
        self.assertEqual(traces_aside(setting, WALKS), [()])
        self.assertEqual(rules_aside(setting, WALKS), [()])

    def test_all_free_windows_count(self):
        setting = Setting(FOUR, 2, capped_rules(), [("a", "b")])
        for function in ALL_FOUR:
            with self.assertRaises(TooLarge):
                function(setting, WALKS)
            with self.assertRaises(CaseError):
                function(setting, WALKS)

    def test_501_spots(self):
        setting = Setting(FOUR, 2, round_rules(), [("a", "b"), ("d", "b")])
        for function in ALL_FOUR:
            with self.assertRaises(TooLarge):
                function(setting, WALKS)

    def test_all_rules_count_together(self):
        setting = Setting(FOUR, 2, round_rules()[:2], [("a", "b"), ("d", "b")])
        self.assertEqual(rules_aside(setting, WALKS), [()])

    def test_too_large_even_if_nothing_fits(self):
        first, second, third = round_rules()
        strict = Rule([False] * 5, first.moves)
        setting = Setting(FOUR, 2, [strict, second, third], [("a", "b"), ("d", "b")])
        for function in ALL_FOUR:
            with self.assertRaises(TooLarge):
                function(setting, WALKS)

    def test_too_large_before_too_many_traces(self):
        setting = Setting(FOUR, 2, round_rules(), [("a", "b"), ("d", "b")])
        with self.assertRaises(TooLarge):
            traces_aside(setting, [*WALKS, ["a"], ["b"]])
        setting = Setting(FOUR, 2, capped_rules())
        with self.assertRaises(TooManyTraces):
            traces_aside(setting, [*WALKS, ["a"], ["b"]])
        self.assertEqual(traces_aside(setting, [*WALKS, ["a"]]), [()])


class Arguments(unittest.TestCase):
    def setUp(self):
        self.setting = Setting(ABC, 2, [at_most(ABC, "a", 1)], [("a", "a"), ("b", "b")])
        self.expected = [[(1,)], [(0,)], [()], [()]]

    def test_kinds(self):
        for traces in [[["a"], ("b",)], (("a",), ["b"])]:
            for function, expected in zip(ALL_FOUR, self.expected):
                found = function(self.setting, traces)
                self.assertEqual(found, expected)
                self.assertIs(type(found), list)
                self.assertEqual({type(row) for row in found}, {tuple})

    def test_by_their_names(self):
        for function, expected in zip(ALL_FOUR, self.expected):
            self.assertEqual(function(traces=[["a"], ["b"]], setting=self.setting), expected)

    def test_nothing_is_modified_and_the_lists_are_new(self):
        traces = [["a"], ["b"]]
        kept = (self.setting.rules, self.setting.optional)
        for function, expected in zip(ALL_FOUR, self.expected):
            function(self.setting, traces).clear()
            self.assertEqual(function(self.setting, traces), expected)
        self.assertEqual(traces, [["a"], ["b"]])
        self.assertEqual((self.setting.rules, self.setting.optional), kept)


if __name__ == "__main__":
    unittest.main()
