"""Points 11 and 12: settings, least processes, free windows and what fits."""

import itertools
import unittest

from caseslive.answers import answer
from caseslive.choices import greatest_sets, refused_sets, rules_aside, traces_aside
from caseslive.errors import CaseError, InvalidSetting, TooLarge
from caseslive.processes import Process, allows
from caseslive.rules import Rule
from caseslive.settings import Setting, fits, free_windows, least_process
from tests.helpers import (
    FOUR, WALKS, at_most, capped_rules, fitting_by_trying, free_by_trying, rejecting, round_rules,
    some_cases, spots_by_trying, subsets, windows_by_trying,
)

NAMES = ["ask", "pay", "send"]
LOOSE = Rule([True], [[0, 0, 0]])


def contents(rules):
    """What the rules hold, because a setting has copies of those that it was passed."""
    return tuple((rule.accepting, rule.moves) for rule in rules)


def stepping(many, names):
    """A rule with so many states."""
    return Rule([True] * many, [[state] * len(names) for state in range(many)])


class Attributes(unittest.TestCase):
    def test_as_passed(self):
        setting = Setting(NAMES, 2, [LOOSE], [["pay", ">"], ("<", "pay")])
        self.assertEqual(setting.names, ("ask", "pay", "send"))
        self.assertEqual(setting.size, 2)
        self.assertEqual(contents(setting.rules), (((True,), ((0, 0, 0),)),))
        self.assertEqual(setting.optional, (("pay", ">"), ("<", "pay")))

    def test_kinds(self):
        for kind in [list, tuple]:
            optional = kind([kind(["pay", ">"]), kind(["<", "pay"])])
            setting = Setting(kind(NAMES), 2, kind([LOOSE]), optional)
            self.assertIs(type(setting.names), tuple)
            self.assertIs(type(setting.size), int)
            self.assertIs(type(setting.rules), tuple)
            self.assertEqual([type(rule) for rule in setting.rules], [Rule])
            self.assertIs(type(setting.optional), tuple)
            self.assertEqual([type(window) for window in setting.optional], [tuple, tuple])

    def test_defaults(self):
        setting = Setting(NAMES, 3)
        self.assertEqual((setting.rules, setting.optional), ((), ()))
        setting = Setting(names=["a"], size=1, optional=[["a"]], rules=[])
        self.assertEqual((setting.names, setting.optional), (("a",), (("a",),)))

    def test_the_order_of_names_and_windows_stays(self):
        setting = Setting(["b", "c", "a"], 1, (), [("c",), ("a",), ("b",)])
        self.assertEqual(setting.names, ("b", "c", "a"))
        self.assertEqual(setting.optional, (("c",), ("a",), ("b",)))

    def test_changes_of_what_was_passed(self):
        names, rules, optional = ["a", "b"], [at_most(["a", "b"], "a", 1)], [["a", "a"], ["b", ">"]]
        rule = rules[0]
        setting = Setting(names, 2, rules, optional)
        names[0] = "c"
        rules.clear()
        optional[0][1] = "b"
        optional.pop()
        self.assertEqual(setting.names, ("a", "b"))
        self.assertEqual(contents(setting.rules), contents([rule]))
        self.assertEqual(setting.optional, (("a", "a"), ("b", ">")))
        self.assertIs(fits(setting, [["a"]], [0]), False)
        self.assertIs(fits(setting, [["a"]], [1]), True)

    def test_changes_of_a_rule_that_was_passed(self):
        rule = at_most(["a"], "a", 1)
        kept = contents([rule])
        setting = Setting(["a"], 2, [rule], [("a", "a")])
        rule.accepting = (True, True, True)
        self.assertEqual(contents(setting.rules), kept)
        self.assertIs(fits(setting, [["a"]], [0]), False)
        rule.moves = ((1,), (2,))
        self.assertEqual(contents(setting.rules), kept)
        self.assertIs(fits(setting, [["a"]], []), True)

    def test_changes_of_a_rule_that_is_passed_twice(self):
        rule = at_most(["a"], "a", 1)
        first, second = Setting(["a"], 2, [rule]), Setting(["a"], 2, [rule, rule])
        first.rules[0].accepting = (False, False, False)
        second.rules[0].accepting = (False, False, True)
        self.assertEqual(rule.accepting, (True, True, False))
        self.assertEqual(second.rules[1].accepting, (True, True, False))
        third = Setting(["a"], 2, first.rules)
        first.rules[0].accepting = (True, True, True)
        self.assertEqual(third.rules[0].accepting, (False, False, False))

    def test_rules_with_lists(self):
        rule = Rule([True], [[0]])
        rule.accepting, rule.moves = [True, False], [[1], [1]]
        setting = Setting(["a"], 2, [rule])
        rule.accepting[1] = True
        rule.moves[0][0] = 0
        self.assertEqual(contents(setting.rules), (((True, False), ((1,), (1,))),))
        self.assertIs(fits(setting, [["a"]], []), False)

    def test_changes_of_rules_in_every_question(self):
        rules = [at_most(["a", "b"], "a", 1)]
        setting = Setting(["a", "b"], 2, rules, [("a", "a")])
        rules[0].accepting = (False, False, False)
        self.assertEqual(answer(setting, [["a"]], [], "a"), (True,) * 4)
        self.assertEqual(greatest_sets(setting, [["a"]]), [()])
        self.assertEqual(refused_sets(setting, [["a"]]), [(0,)])
        self.assertEqual(traces_aside(setting, [["a"]]), [()])
        self.assertEqual(rules_aside(setting, [["a"]]), [()])

    def test_what_is_passed_is_not_modified(self):
        names, rules, optional = ["a", "b"], [stepping(2, "ab")], [["a", "a"], ["b", ">"]]
        traces, numbers = [["a"], ["b", "a"]], [1, 0]
        kept = list(rules)
        setting = Setting(names, 2, rules, optional)
        least_process(setting, traces)
        free_windows(setting, traces)
        fits(setting, traces, numbers)
        self.assertEqual((names, rules), (["a", "b"], kept))
        self.assertEqual(optional, [["a", "a"], ["b", ">"]])
        self.assertEqual((traces, numbers), ([["a"], ["b", "a"]], [1, 0]))
        self.assertEqual((setting.names, setting.size), (("a", "b"), 2))
        self.assertEqual(setting.optional, (("a", "a"), ("b", ">")))


class Bounds(unittest.TestCase):
    def test_names(self):
        for many in range(1, 6):
            names = list("edcba")[:many]
            self.assertEqual(Setting(names, 1).names, tuple(names))
        self.assertEqual(Setting(("abcdefgh", "z"), 1).names, ("abcdefgh", "z"))

    def test_sizes(self):
        for size in [1, 2, 3]:
            self.assertEqual(Setting(NAMES, size).size, size)

    def test_rules(self):
        for many in range(4):
            self.assertEqual(len(Setting(NAMES, 1, [LOOSE] * many).rules), many)
        for many in range(1, 7):
            for names in [["a"], list("abcde")]:
                rule = stepping(many, names)
                found = Setting(names, 1, (rule, rule, rule)).rules
                self.assertEqual(contents(found), contents([rule] * 3))

    def test_moves_to_the_first_and_the_last_state(self):
        rule = Rule([True] * 5 + [False], [[0, 5]] * 6)
        self.assertEqual(contents(Setting(["a", "b"], 1, [rule]).rules), contents([rule]))

    def test_optional_windows(self):
        eight = list(itertools.product(["ask", "pay", "send"], repeat=2))[:8]
        for many in range(9):
            self.assertEqual(Setting(NAMES, 2, [], eight[:many]).optional, tuple(eight[:many]))
        lists = [list(window) for window in eight]
        self.assertEqual(Setting(NAMES, 2, [], lists).optional, tuple(eight))
        self.assertEqual(Setting(NAMES, 1, [], [["pay"]]).optional, (("pay",),))

    def test_marks_in_optional_windows(self):
        twos = (("<", "ask"), ("ask", ">"), ("<", ">"))
        self.assertEqual(Setting(NAMES, 2, (), twos).optional, twos)
        threes = (("<", "<", "ask"), ("<", "ask", "pay"), ("<", "ask", ">"), ("ask", "pay", ">"),
                  ("ask", ">", ">"), ("<", "<", ">"), ("<", ">", ">"))
        self.assertEqual(Setting(NAMES, 3, (), threes).optional, threes)

    def test_optional_windows_that_look_alike(self):
        windows = (("a", "b"), ("b", "a"), ("a", "a"), ("ab", "a"), ("a", "ab"))
        self.assertEqual(Setting(["a", "b", "ab"], 2, (), windows).optional, windows)


class Invalid(unittest.TestCase):
    def refuse(self, *arguments):
        with self.assertRaises(InvalidSetting, msg=arguments):
            Setting(*arguments)

    def test_the_error_is_a_case_error(self):
        for kind in [CaseError, ValueError]:
            with self.assertRaises(kind):
                Setting([], 1)

    def test_names(self):
        self.refuse([], 1)
        self.refuse((), 1)
        self.refuse(list("abcdef"), 1)
        self.refuse(["a", "a"], 1)
        self.refuse(("a", "b", "c", "d", "a"), 1)

    def test_names_that_are_no_activities(self):
        for name in ["", "abcdefghi", "A", "aB", "a1", "a b", "a_b", "<", ">", " ", "a\n",
                     "\u00e9", "\u0430", "{", "`", 1, None, True, b"a", ("a",), ["a"]]:
            self.refuse([name], 1)
            self.refuse(["a", name], 1)
            self.refuse((name, "b"), 2)

    def test_sizes(self):
        for size in [0, 4, -1, 5, 10 ** 5000, True, False, None, "2", 2.0, (2,)]:
            self.refuse(NAMES, size)
        self.refuse(["a"], True, [], [("a",)])

    def test_more_than_3_rules(self):
        self.refuse(NAMES, 2, [LOOSE] * 4)
        self.refuse(NAMES, 2, (LOOSE,) * 5)

    def test_numbers_of_states(self):
        self.refuse(["a"], 1, [Rule([], [])])
        self.refuse(["a"], 1, [stepping(7, "a")])
        self.refuse(["a"], 1, [stepping(6, "a"), stepping(7, "a")])

    def test_lengths_of_tuples(self):
        self.refuse(["a"], 1, [Rule([True], [])])
        self.refuse(["a"], 1, [Rule([], [[0]])])
        self.refuse(["a"], 1, [Rule([True, True], [[0]])])
        self.refuse(["a"], 1, [Rule([True], [[0], [0]])])
        for row in [[], [0], [0, 0, 0]]:
            self.refuse(["a", "b"], 1, [Rule([True, True], [[0, 1], row])])
            self.refuse(["a", "b"], 1, [Rule([True, True], [row, [0, 1]])])
        self.refuse(["a", "b"], 1, [LOOSE])

    def test_states(self):
        for state in [2, 3, -1, -2, 10 ** 5000, True, False, None, "0", 0.0, (0,)]:
            self.refuse(["a", "b"], 1, [Rule([True, True], [[0, 1], [0, state]])])
            self.refuse(["a", "b"], 1, [Rule([True, True], [[state, 1], [0, 1]])])

    def test_accepting_values(self):
        for value in [0, 1, None, "", "True", 2, (), 1.0]:
            self.refuse(["a"], 1, [Rule([value], [[0]])])
            self.refuse(["a"], 1, [Rule([True, False, value], [[0], [1], [2]])])

    def test_any_of_the_rules(self):
        good, wrong = stepping(2, "a"), Rule([True], [[1]])
        for rules in [[wrong], [wrong, good, good], [good, wrong], (good, good, wrong)]:
            self.refuse(["a"], 1, rules)

    def test_more_than_8_optional_windows(self):
        nine = list(itertools.product(["ask", "pay", "send"], repeat=2))
        self.refuse(NAMES, 2, [], nine)
        self.refuse(NAMES, 2, (), tuple(nine))

    def test_optional_windows_that_are_not_well_formed(self):
        for window in [("ask", "<"), (">", "ask"), (">", "<"), ("<", "<"), (">", ">")]:
            self.refuse(NAMES, 2, [], [window])
            self.refuse(NAMES, 2, [], [("ask", "ask"), list(window)])
        for window in [("<",), (">",)]:
            self.refuse(NAMES, 1, [], [window])
        for window in [("<", "<", "<"), (">", ">", ">"), ("ask", "<", "pay"), ("ask", ">", "pay"),
                       ("<", ">", "ask"), (">", ">", "<"), ("ask", "<", ">")]:
            self.refuse(NAMES, 3, [], [window])

    def test_optional_windows_of_another_size(self):
        for size in [1, 2, 3]:
            for many in [0, 1, 2, 3, 4]:
                if many != size:
                    self.refuse(NAMES, size, [], [("ask",) * many])
        self.refuse(NAMES, 2, [], [("<", "ask"), ("<", "<", "ask")])

    def test_optional_windows_with_other_activities(self):
        for sign in ["asks", "a", "", "ASK", "<<", "<>", 1, None, ["ask"]]:
            self.refuse(NAMES, 2, [], [("ask", sign)])
            self.refuse(NAMES, 2, [], [(sign, "ask")])
        self.refuse(["a"], 1, [], [["b"]])
        self.refuse(["a"], 3, [], [["<", "a", "b"]])

    def test_optional_windows_that_occur_twice(self):
        self.refuse(NAMES, 2, [], [("ask", "pay"), ("pay", "ask"), ("ask", "pay")])
        self.refuse(NAMES, 2, [], [("ask", "pay"), ["ask", "pay"]])
        self.refuse(NAMES, 1, [], [["ask"], ["ask"]])


class LeastProcesses(unittest.TestCase):
    def test_windows_in_the_order_in_which_they_first_occur(self):
        setting = Setting(NAMES, 2)
        found = least_process(setting, [["ask", "send"], ["ask", "pay", "ask", "send"]])
        self.assertIsInstance(found, Process)
        self.assertEqual(found.size, 2)
        self.assertEqual(found.windows, (("<", "ask"), ("ask", "send"), ("send", ">"),
                                         ("ask", "pay"), ("pay", "ask")))

    def test_the_order_of_the_traces_counts(self):
        setting = Setting(["a", "b"], 1)
        self.assertEqual(least_process(setting, [["b"], ["a", "b"]]).windows, (("b",), ("a",)))
        self.assertEqual(least_process(setting, [["a", "b"], ["b"]]).windows, (("a",), ("b",)))

    def test_no_traces(self):
        for size in [1, 2, 3]:
            setting = Setting(NAMES, size, [], [("ask",) * size])
            for traces in [[], ()]:
                found = least_process(setting, traces)
                self.assertEqual((found.size, found.windows), (size, ()))

    def test_empty_traces(self):
        self.assertEqual(least_process(Setting(NAMES, 1), [[]]).windows, ())
        self.assertEqual(least_process(Setting(NAMES, 2), [[], []]).windows, (("<", ">"),))
        self.assertEqual(least_process(Setting(NAMES, 3), [[]]).windows,
                         (("<", "<", ">"), ("<", ">", ">")))

    def test_optional_windows_are_not_in_it(self):
        setting = Setting(["a", "b"], 2, [], [("a", "b"), ("<", "a")])
        self.assertEqual(least_process(setting, [["a"]]).windows, (("<", "a"), ("a", ">")))

    def test_lists_and_tuples(self):
        setting = Setting(NAMES, 2)
        for traces in [[["ask"], ("pay",)], (("ask",), ["pay"])]:
            self.assertEqual(least_process(setting, traces).windows,
                             (("<", "ask"), ("ask", ">"), ("<", "pay"), ("pay", ">")))

    def test_against_all_windows(self):
        for setting, traces in some_cases(20, 80, 4):
            found = least_process(setting, traces)
            self.assertEqual(found.windows, tuple(windows_by_trying(setting.size, traces)))
            for trace in traces:
                self.assertIs(allows(found, trace), True)


class FreeWindows(unittest.TestCase):
    SETTING = Setting(NAMES, 2, [], [("send", ">"), ("pay", ">"), ("<", "ask"), ("pay", "ask")])

    def test_without_those_of_the_least_process(self):
        self.assertEqual(free_windows(self.SETTING, [["ask", "pay", "send"]]),
                         [("pay", ">"), ("pay", "ask")])
        self.assertEqual(free_windows(self.SETTING, [["ask", "pay", "ask", "pay"], ["send"]]), [])

    def test_all_of_them(self):
        for traces in [[], [[]]]:
            self.assertEqual(free_windows(self.SETTING, traces), list(self.SETTING.optional))

    def test_no_optional_windows(self):
        self.assertEqual(free_windows(Setting(NAMES, 2), [["ask"]]), [])

    def test_windows_that_rules_refuse_are_free(self):
        setting = Setting(["a"], 2, [at_most(["a"], "a", 1)], [("a", "a")])
        self.assertEqual(free_windows(setting, [["a"]]), [("a", "a")])
        self.assertEqual(free_windows(setting, [["a"], ["a", "a"]]), [])

    def test_kinds(self):
        setting = Setting(NAMES, 2, [], [["pay", ">"]])
        found = free_windows(setting, (("ask",),))
        self.assertEqual(found, [("pay", ">")])
        self.assertIs(type(found), list)
        self.assertIs(type(found[0]), tuple)

    def test_the_list_is_new(self):
        found = free_windows(self.SETTING, [])
        found.clear()
        self.assertEqual(len(free_windows(self.SETTING, [])), 4)
        self.assertEqual(len(self.SETTING.optional), 4)

    def test_against_trying(self):
        for setting, traces in some_cases(21, 80, 8):
            self.assertEqual(free_windows(setting, traces), free_by_trying(setting, traces))


class Fitting(unittest.TestCase):
    def setUp(self):
        # Only both free windows together allow `a` twice; the least process has ("<", "a") too.
        optional = [("<", "a"), ("b", "a"), ("a", "b")]
        self.setting = Setting(["a", "b"], 2, [at_most(["a", "b"], "a", 1)], optional)
        self.traces = [["a"], ["b"]]

    def test_sets_of_numbers(self):
        for numbers, expected in [([], True), ([0], True), ([1], True), ([0, 1], False)]:
            self.assertIs(fits(self.setting, self.traces, numbers), expected)

    def test_any_order(self):
        optional = [("a", "b"), ("b", "c"), ("c", "a")]
        names = ["a", "b", "c"]
        setting = Setting(names, 2, [rejecting(names, ["a", "b", "c", "a"])], optional)
        for numbers in itertools.permutations(range(3)):
            self.assertIs(fits(setting, [["a"]], list(numbers)), False)
            self.assertIs(fits(setting, [["a"]], numbers), False)
        for numbers in itertools.permutations(range(3), 2):
            self.assertIs(fits(setting, [["a"]], numbers), True)

    def test_no_completed_traces(self):
        names = ["a", "b"]
        setting = Setting(names, 2, [at_most(names, "a", 0)], [("<", "a"), ("a", ">"), ("<", ">")])
        for numbers in subsets(3):
            self.assertIs(fits(setting, [], numbers), not {0, 1} <= set(numbers))

    def test_no_completed_traces_of_size_1(self):
        setting = Setting(["a"], 1, [rejecting(["a"], [])], [("a",)])
        self.assertIs(fits(setting, [], []), False)
        self.assertIs(fits(setting, (), (0,)), False)
        setting = Setting(["a"], 1, [rejecting(["a"], ["a"])], [("a",)])
        self.assertIs(fits(setting, [], []), True)
        self.assertIs(fits(setting, [], [0]), False)

    def test_the_least_process_may_not_fit(self):
        self.assertIs(fits(self.setting, [["a", "a"]], []), False)
        self.assertIs(fits(self.setting, [["b", "b"]], []), True)

    def test_each_rule_counts(self):
        names = ["a", "b"]
        for rules in itertools.permutations([at_most(names, "a", 1), at_most(names, "b", 3),
                                             Rule([True], [[0, 0]])]):
            setting = Setting(names, 2, rules, [("a", "a"), ("b", "b")])
            self.assertIs(fits(setting, [["a"], ["b"]], []), True)
            self.assertIs(fits(setting, [["a"], ["b"]], [0]), False)
            self.assertIs(fits(setting, [["a"], ["b"]], [1]), False)

    def test_no_rules(self):
        setting = Setting(NAMES, 2, [], [("ask", "ask"), ("ask", ">")])
        for numbers in [[], [0], [1], [1, 0]]:
            self.assertIs(fits(setting, [["ask", "pay"]], numbers), True)

    def test_fewer_free_windows_keep_fitting(self):
        seen = set()
        for setting, traces in some_cases(22, 40, 4):
            fitting = {numbers: fits(setting, traces, numbers)
                       for numbers in subsets(len(free_windows(setting, traces)))}
            for numbers in fitting:
                for fewer in itertools.combinations(numbers, max(0, len(numbers) - 1)):
                    self.assertTrue(fitting[fewer] or not fitting[numbers])
            seen.add((any(fitting.values()), all(fitting.values())))
        self.assertEqual(seen, {(True, True), (True, False), (False, False)})

    def test_against_trying(self):
        for setting, traces in some_cases(23, 80, 4):
            fitting = fitting_by_trying(setting, traces)
            for numbers in subsets(len(free_windows(setting, traces))):
                self.assertIs(fits(setting, traces, numbers), numbers in fitting)

    def test_500_spots(self):
        setting = Setting(FOUR, 2, capped_rules(), [("a", "b"), ("d", "b")])
        self.assertEqual(len(spots_by_trying(least_process(setting, WALKS), FOUR, setting.rules)),
                         500)
        self.assertIs(fits(setting, WALKS, []), True)
        for numbers in [[0], [1], [1, 0]]:
            with self.assertRaises(TooLarge):
                fits(setting, WALKS, numbers)

    def test_501_spots(self):
        setting = Setting(FOUR, 2, round_rules())
        traces = [list(pair) for pair in itertools.product(FOUR, repeat=2)]
        self.assertEqual(len(spots_by_trying(least_process(setting, traces), FOUR, setting.rules)),
                         501)
        with self.assertRaises(TooLarge):
            fits(setting, traces, [])


if __name__ == "__main__":
    unittest.main()
