"""The whole program: modules together, each error, and points 1, 2 and 3 over all of it."""

import unittest

from caseslive import errors
from caseslive.alignments import align, first_fault, prices, tails_of
from caseslive.answers import answer, certain_answer, variants
from caseslive.breaks import first_break
from caseslive.changes import can_move, first_difference
from caseslive.choices import greatest_sets, refused_sets, rules_aside, traces_aside
from caseslive.control import Net
from caseslive.logs import Log, replay
from caseslive.processes import (
    Process, allows, can_stop, next_tails, tail_of, windows_of,
)
from caseslive.rules import Rule, accepts, state_after, verdict
from caseslive.settings import Setting, fits, free_windows, least_process
from tests.helpers import (
    FOUR, at_most, free_process, many_ways, round_rules,
)

NAMES = ["ask", "pay", "send"]


def edited_log(setting):
    """A log with two completed cases and one that runs."""
    log = Log(setting)
    for trace in [["ask", "pay", "send"], ["ask", "send", "pay"], ["ask"]]:
        case = log.begin()
        for place, activity in enumerate(trace):
            log.put(case, place, activity)
    log.complete(0)
    log.complete(1)
    log.drop(1, 1)
    log.put(1, 2, "send")
    return log


class ReplayedLogs(unittest.TestCase):
    def setUp(self):
        self.setting = Setting(NAMES, 2, [at_most(NAMES, "pay", 1)], [("pay", ">"), ("pay", "pay")])
        self.log = replay(self.setting, edited_log(self.setting).journal())
        self.traces = self.log.completed()

    def test_completed_traces(self):
        self.assertEqual(self.traces, [["ask", "pay", "send"]] * 2)
        self.assertEqual(self.log.traces()[2], ["ask"])

    def test_a_least_process(self):
        least = least_process(self.setting, self.traces)
        self.assertEqual(least.windows,
                         (("<", "ask"), ("ask", "pay"), ("pay", "send"), ("send", ">")))
        for trace in self.traces:
            self.assertIs(allows(least, trace), True)

    def test_an_answer(self):
        running = self.log.traces()[2]
        self.assertEqual(answer(self.setting, self.traces, running, "send"),
                         (True, True, True, False))
        self.assertEqual(answer(self.setting, self.traces, running, "pay"), (True,) * 4)
        self.assertIsNone(answer(self.setting, self.traces, ["send", "ask"], "pay"))

    def test_a_certain_answer(self):
        running = self.log.traces()[2]
        self.assertEqual(certain_answer(self.setting, self.traces, running, "send", {"pay": 1}, 0),
                         (True, True, True, True, False))
        self.assertEqual(certain_answer(self.setting, self.traces, running, "pay", {"pay": 1}, 0),
                         (True, None, None, None, None))
        self.assertEqual(certain_answer(self.setting, self.traces, running, "pay", {"pay": 2}, 0),
                         (None,) * 5)

    def test_sets_of_its_free_windows(self):
        self.assertEqual(greatest_sets(self.setting, self.traces), [(0,)])
        self.assertEqual(refused_sets(self.setting, self.traces), [(1,)])

    def test_a_net_of_its_least_process(self):
        least = least_process(self.setting, self.traces)
        net = Net(least, NAMES, self.setting.rules, ["send"])
        self.assertEqual((net.count(), net.ranks()), (4, [3, 2, 1, 0]))
        self.assertEqual(net.allowed(["ask", "pay"]), ["send"])

    def test_alignments_with_its_least_process(self):
        least = least_process(self.setting, self.traces)
        costs = {name: 1 for name in NAMES}, {name: 2 for name in NAMES}
        self.assertEqual(align(least, NAMES, self.log.traces()[2], costs),
                         (4, [("take", "ask"), ("insert", "pay"), ("insert", "send")]))

    def test_a_later_change_changes_the_answers(self):
        self.log.complete(2)
        self.assertEqual(self.traces, [["ask", "pay", "send"]] * 2)
        traces = self.log.completed()
        self.assertEqual(answer(self.setting, traces, ["ask"], "pay"), (True, True, False, False))
        before = least_process(self.setting, self.traces)
        after = least_process(self.setting, traces)
        self.assertEqual(first_difference(after, before, NAMES), ["ask"])
        self.assertIsNone(first_difference(before, after, NAMES))
        self.assertIs(can_move(before, NAMES, self.setting.rules, ["send", "ask"]), True)


def too_large():
    """A call that reaches too many spots."""
    first_break(free_process(2, FOUR), FOUR, round_rules())


def too_many_ways():
    """A call that reaches too many ways."""
    setting, traces = many_ways()
    answer(setting, traces, [], "d")


def not_good():
    """A call for a trace whose node is not good."""
    Net(Process(2, [("<", "a")]), ["a"], [], []).allowed([])


def log_full():
    """A call of a log that took 300 changes."""
    log = Log(Setting(["a"], 1))
    for _ in range(301):
        log.begin()


# For each error class a call that raises it.
CALLS = {
    "InvalidProcess": lambda: Process(4, []),
    "InvalidSetting": lambda: Setting([], 1),
    "TooLarge": too_large,
    "TooManyWays": too_many_ways,
    "TooManyTraces": lambda: traces_aside(Setting(["a"], 1), [[]] * 7),
    "NotReached": lambda: Net(Process(2, []), ["a"], [], []).node_of(["a"]),
    "NotGood": not_good,
    "Refused": lambda: Log(Setting(["a"], 1)).complete(0),
    "LogFull": log_full,
    "Changed": lambda: replay(Setting(["a"], 1), "begin 1\n"),
    "Impossible": lambda: replay(Setting(["a"], 1), "drop 0 0 18590\n"),
}


class Errors(unittest.TestCase):
    def test_each_class_is_raised(self):
        for name, call in CALLS.items():
            with self.assertRaises(errors.CaseError) as caught:
                call()
            self.assertIs(type(caught.exception), getattr(errors, name), name)
        for base in ["CaseError", "JournalError"]:
            self.assertNotIn(base, CALLS)
        self.assertEqual(len(CALLS) + 2, len([name for name in vars(errors) if name[0] != "_"]))

    def test_each_class_is_caught_as_each_of_its_bases(self):
        for name, call in CALLS.items():
            for base in [getattr(errors, name), errors.CaseError, ValueError]:
                with self.assertRaises(base):
                    call()

    def test_errors_of_journals(self):
        for name in ["Changed", "Impossible"]:
            with self.assertRaises(errors.JournalError) as caught:
                CALLS[name]()
            self.assertEqual(caught.exception.line, 1)

    def test_each_class_is_caught_as_no_other_one(self):
        for name, call in CALLS.items():
            for other in CALLS:
                if other != name:
                    try:
                        call()
                    except getattr(errors, other):
                        self.fail((name, other))
                    except errors.CaseError:
                        pass

    def test_too_large_wherever_the_document_names_it(self):
        process, rules = free_process(2, FOUR), round_rules()
        setting = Setting(FOUR, 2, rules, process.windows[:8])
        traces = [[first, second] for first in FOUR for second in FOUR]
        for call in [lambda: first_break(process, FOUR, rules),
                     lambda: fits(setting, traces, []),
                     lambda: answer(setting, traces, [], "a"),
                     lambda: certain_answer(setting, traces, [], "a", {}, 0),
                     lambda: greatest_sets(setting, traces),
                     lambda: refused_sets(setting, traces),
                     lambda: traces_aside(setting, traces),
                     lambda: rules_aside(setting, traces),
                     lambda: Net(process, FOUR, rules, []),
                     lambda: can_move(process, FOUR, rules, [])]:
            self.assertRaises(errors.TooLarge, call)


def deep(value, kind):
    """The value with each list and tuple in it of this kind."""
    if isinstance(value, (list, tuple)):
        return kind(deep(item, kind) for item in value)
    return value


def all_results(kind):
    """What all functions and methods tell if lists and tuples are passed as this kind."""
    names, trace, ours = kind(["a", "b"]), kind(["a", "b", "a"]), kind(["a", "b"])
    traces = deep([["a", "b"], ["a"]], kind)
    windows = deep([["<", "a"], ["a", "b"], ["b", ">"], ["b", "a"]], kind)
    rule = Rule(kind([True, True, False]), deep([[0, 1], [1, 2], [2, 2]], kind))
    rules, costs = kind([rule]), kind([{"a": 1, "b": 2}, {"a": 3, "b": 4}])
    process = Process(2, windows)
    setting = Setting(names, 2, rules, deep([["b", "b"], ["b", "a"]], kind))
    net = Net(process, names, rules, ours)
    made = prices(process, names, trace, costs)
    return [
        state_after(rule, names, trace), accepts(rule, names, trace), verdict(rule, names, trace),
        process.windows, windows_of(3, trace), allows(process, trace), tail_of(3, trace),
        next_tails(process, names, kind(["b"])), can_stop(process, kind(["b"])),
        first_break(process, names, rules), setting.names, setting.optional,
        least_process(setting, traces).windows, free_windows(setting, traces),
        fits(setting, traces, kind([1, 0])), answer(setting, traces, kind(["a"]), "b"),
        variants(trace, {"b": 1}, 2, names),
        certain_answer(setting, traces, kind(["a"]), "b", {"b": 1}, 1),
        greatest_sets(setting, traces), refused_sets(setting, traces),
        traces_aside(setting, traces), rules_aside(setting, traces),
        net.count(), net.node_of(trace), net.allowed(kind(["a"])), net.ranks(),
        net.first_fault(kind(net.ranks())), tails_of(process, names), made,
        align(process, names, trace, costs),
        first_fault(process, names, trace, costs, deep(made, kind)),
        can_move(process, names, rules, trace),
        first_difference(process, Process(2, windows[:3]), names),
        Log(setting).verdicts(), replay(setting, "begin 37378\n").verdicts(),
    ]


class Everywhere(unittest.TestCase):
    def test_lists_and_tuples_in_each_others_place(self):
        expected = all_results(list)
        self.assertEqual(all_results(tuple), expected)
        self.assertEqual([type(found) for found in all_results(tuple)],
                         [type(found) for found in expected])

    def test_true_and_false_are_not_integers(self):
        self.assertRaises(errors.InvalidProcess, Process, True, [])
        self.assertRaises(errors.InvalidSetting, Setting, ["a"], True)
        self.assertRaises(errors.InvalidSetting, Setting, ["a"], 1, [Rule([True], [[False]])])
        log = Log(Setting(["a"], 1, [Rule([True], [[0]])] * 2))
        log.begin()
        log.put(0, 0, "a")
        for call in [lambda: log.put(False, 0, "a"), lambda: log.put(0, True, "a"),
                     lambda: log.drop(0, False), lambda: log.complete(False),
                     lambda: log.is_completed(False), lambda: log.switch(True, False),
                     lambda: log.is_on(False)]:
            self.assertRaises(errors.Refused, call)

    def test_traces_of_any_length(self):
        trace = ["a", "b"] * 5000
        process = Process(2, windows_of(2, trace))
        rules = [at_most(["a", "b"], "a", 3)]
        self.assertEqual(Net(process, ["a", "b"], [], []).node_of(trace), 2)
        self.assertIs(can_move(process, ["a", "b"], rules, trace), False)
        costs = {"a": 1, "b": 1}, {"a": 1, "b": 1}
        self.assertEqual(align(process, ["a", "b"], trace + ["b"], costs)[0], 1)


class TheExample(unittest.TestCase):
    def test_as_in_the_document(self):
        setting = Setting(["ask", "pay", "send"], 2, [], [("pay", ">")])
        traces = [["ask", "pay", "send"]]
        self.assertEqual(least_process(setting, traces).windows,
                         (("<", "ask"), ("ask", "pay"), ("pay", "send"), ("send", ">")))
        self.assertEqual(answer(setting, traces, ["ask"], "send"), (True, True, True, False))
        self.assertIs(answer(setting, traces, ["pay"], "send") is None, True)


if __name__ == "__main__":
    unittest.main()
