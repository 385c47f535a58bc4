"""Points 29 and 30: logs, their changes, and the verdicts on their cases."""

import random
import unittest

from caseslive.errors import CaseError, LogFull, Refused
from caseslive.logs import Log
from caseslive.rules import Rule, verdict
from caseslive.settings import Setting
from tests.helpers import at_most, rejecting, some_rule

NAMES = ["ask", "pay", "send"]
# Values that are no numbers of cases, places or rules, whatever there is.
STRANGE = [-1, -2, 10 ** 5000, -10 ** 5000, True, False, None, "0", 0.0, (0,)]


def paid():
    """A rule that says no until `pay` came, then always."""
    return Rule([False, True], [[0, 1, 0], [1, 1, 1]])


def setting_with(rules):
    """A setting with these rules."""
    return Setting(NAMES, 2, rules, [("pay", ">")])


def log_with(traces, rules=()):
    """A log with running cases that have these traces."""
    log = Log(setting_with(rules))
    for trace in traces:
        case = log.begin()
        for place, activity in enumerate(trace):
            log.put(case, place, activity)
    return log


def state_of(log, rules):
    """All that a log tells without finding verdicts."""
    return (log.traces(), [log.is_completed(case) for case in range(len(log.traces()))],
            log.completed(), [log.is_on(rule) for rule in range(rules)], log.stale(), log.work,
            log.journal())


class LogTest(unittest.TestCase):
    def refuse(self, log, method, *arguments, rules=0):
        """Check that a call of a method is refused and changes nothing."""
        kept = state_of(log, rules)
        for kind in [Refused, CaseError]:
            with self.assertRaises(kind):
                getattr(log, method)(*arguments)
        self.assertEqual(state_of(log, rules), kept)


class NewLogs(LogTest):
    def test_no_case(self):
        log = Log(setting_with([paid()]))
        self.assertEqual(log.traces(), [])
        self.assertEqual(log.completed(), [])
        self.assertEqual(log.verdicts(), [])
        self.assertEqual(log.stale(), [])
        self.assertEqual(log.work, 0)
        self.assertEqual(log.journal(), "")

    def test_all_rules_are_on(self):
        log = Log(setting_with([paid()] * 3))
        for rule in range(3):
            self.assertIs(log.is_on(rule), True)

    def test_by_its_name(self):
        self.assertEqual(Log(setting=setting_with([])).traces(), [])


class Beginning(LogTest):
    def test_numbers_and_empty_traces(self):
        log = log_with([])
        for number in range(4):
            self.assertEqual(log.begin(), number)
            self.assertIs(log.is_completed(number), False)
        self.assertEqual(log.traces(), [[], [], [], []])

    def test_the_number_is_an_integer(self):
        self.assertIs(type(log_with([["ask"]]).begin()), int)


class Putting(LogTest):
    def test_at_the_end(self):
        log = log_with([[]])
        self.assertIsNone(log.put(0, 0, "pay"))
        log.put(0, 1, "ask")
        log.put(0, 2, "pay")
        self.assertEqual(log.traces(), [["pay", "ask", "pay"]])

    def test_before_what_stands_there(self):
        for place, expected in [(0, ["send", "ask", "pay"]), (1, ["ask", "send", "pay"]),
                                (2, ["ask", "pay", "send"])]:
            log = log_with([["ask", "pay"]])
            log.put(0, place, "send")
            self.assertEqual(log.traces(), [expected])

    def test_into_one_of_several_cases(self):
        log = log_with([["ask"], ["pay"], []])
        log.put(1, 0, "send")
        log.put(2, 0, "send")
        self.assertEqual(log.traces(), [["ask"], ["send", "pay"], ["send"]])

    def test_no_such_case(self):
        log = log_with([["ask"], []])
        for case in [2, 3, *STRANGE]:
            self.refuse(log, "put", case, 0, "ask")
        self.refuse(log_with([]), "put", 0, 0, "ask")

    def test_no_such_place(self):
        log = log_with([["ask", "pay"], []])
        for place in [3, 4, *STRANGE]:
            self.refuse(log, "put", 0, place, "ask")
        for place in [1, *STRANGE]:
            self.refuse(log, "put", 1, place, "ask")

    def test_no_such_activity(self):
        log = log_with([["ask"]])
        for activity in ["asks", "a", "", "ASK", "ask ", "<", ">", "ask\n", "other", 0, None, True]:
            self.refuse(log, "put", 0, 0, activity)

    def test_30_activities(self):
        log = log_with([["ask"] * 29])
        log.put(0, 14, "pay")
        self.assertEqual(log.traces(), [["ask"] * 14 + ["pay"] + ["ask"] * 15])
        for place in [0, 15, 29, 30]:
            self.refuse(log, "put", 0, place, "send")
        log.begin()
        log.put(1, 0, "send")
        log.drop(0, 3)
        log.put(0, 29, "send")
        self.assertEqual(log.traces()[0][28:], ["ask", "send"])
        self.refuse(log, "put", 0, 30, "send")

    def test_by_their_names(self):
        log = log_with([[]])
        log.put(activity="ask", place=0, case=0)
        self.assertEqual(log.traces(), [["ask"]])


class Dropping(LogTest):
    def test_each_place(self):
        for place, expected in [(0, ["pay", "send"]), (1, ["ask", "send"]), (2, ["ask", "pay"])]:
            log = log_with([["ask"], ["ask", "pay", "send"]])
            self.assertIsNone(log.drop(1, place))
            self.assertEqual(log.traces(), [["ask"], expected])

    def test_the_only_activity(self):
        log = log_with([["ask"]])
        log.drop(0, 0)
        self.assertEqual(log.traces(), [[]])
        self.refuse(log, "drop", 0, 0)

    def test_no_such_case(self):
        log = log_with([["ask"]])
        for case in [1, 2, *STRANGE]:
            self.refuse(log, "drop", case, 0)

    def test_no_such_place(self):
        log = log_with([["ask", "pay"], []])
        for place in [2, 3, *STRANGE]:
            self.refuse(log, "drop", 0, place)
        for place in [0, 1, *STRANGE]:
            self.refuse(log, "drop", 1, place)

    def test_by_their_names(self):
        log = log_with([["ask", "pay"]])
        log.drop(place=0, case=0)
        self.assertEqual(log.traces(), [["pay"]])


class CompletingAndReopening(LogTest):
    def test_back_and_forth(self):
        log = log_with([["ask"], ["pay"]])
        self.assertIsNone(log.complete(1))
        self.assertEqual([log.is_completed(0), log.is_completed(1)], [False, True])
        self.assertIsNone(log.reopen(1))
        self.assertEqual([log.is_completed(0), log.is_completed(1)], [False, False])
        log.complete(1)
        self.assertIs(log.is_completed(1), True)
        self.assertEqual(log.traces(), [["ask"], ["pay"]])

    def test_the_empty_trace(self):
        log = log_with([[]])
        log.complete(0)
        self.assertEqual(log.completed(), [[]])

    def test_a_completed_case(self):
        log = log_with([["ask"], []])
        log.complete(0)
        self.refuse(log, "complete", 0)
        log.complete(1)
        self.refuse(log, "complete", 1)

    def test_a_running_case(self):
        log = log_with([["ask"]])
        self.refuse(log, "reopen", 0)
        log.complete(0)
        log.reopen(0)
        self.refuse(log, "reopen", 0)

    def test_no_such_case(self):
        log = log_with([["ask"], []])
        log.complete(1)
        for case in [2, 3, *STRANGE]:
            for method in ["complete", "reopen", "is_completed"]:
                self.refuse(log, method, case)

    def test_completed_cases_can_be_changed(self):
        log = log_with([["ask"], ["ask", "pay"]])
        log.complete(1)
        log.put(1, 2, "send")
        log.drop(1, 0)
        self.assertEqual(log.completed(), [["pay", "send"]])
        self.assertIs(log.is_completed(1), True)
        self.assertEqual(log.traces(), [["ask"], ["pay", "send"]])

    def test_completed_in_order(self):
        log = log_with([["ask"], ["pay"], ["send"], []])
        for case, expected in [(2, [["send"]]), (0, [["ask"], ["send"]]),
                               (3, [["ask"], ["send"], []])]:
            log.complete(case)
            self.assertEqual(log.completed(), expected)
        log.reopen(2)
        self.assertEqual(log.completed(), [["ask"], []])

    def test_by_its_name(self):
        log = log_with([[]])
        log.complete(case=0)
        self.assertIs(log.is_completed(case=0), True)
        log.reopen(case=0)


class Switching(LogTest):
    def test_off_and_on(self):
        log = log_with([[]], [paid(), paid()])
        self.assertIsNone(log.switch(1, False))
        self.assertEqual([log.is_on(0), log.is_on(1)], [True, False])
        log.switch(0, False)
        self.assertIsNone(log.switch(1, True))
        self.assertEqual([log.is_on(0), log.is_on(1)], [False, True])

    def test_already_as_told(self):
        log = log_with([["ask"]], [paid(), paid()])
        self.refuse(log, "switch", 0, True, rules=2)
        log.switch(0, False)
        self.refuse(log, "switch", 0, False, rules=2)
        self.refuse(log, "switch", 1, True, rules=2)
        log.switch(0, True)
        self.refuse(log, "switch", 0, True, rules=2)

    def test_no_such_rule(self):
        log = log_with([["ask"]], [paid(), paid()])
        for rule in [2, 3, *STRANGE]:
            for on in [True, False]:
                self.refuse(log, "switch", rule, on, rules=2)
            self.refuse(log, "is_on", rule, rules=2)
        for rule in [0, *STRANGE]:
            self.refuse(log_with([]), "switch", rule, False)
            self.refuse(log_with([]), "is_on", rule)

    def test_by_their_names(self):
        log = log_with([], [paid()])
        log.switch(on=False, rule=0)
        self.assertIs(log.is_on(rule=0), False)


class Full(LogTest):
    CHANGES = [("begin",), ("put", 0, 0, "ask"), ("drop", 0, 0), ("complete", 0), ("reopen", 1),
               ("switch", 0, False), ("switch", 1, True)]

    def filled(self, trace, many):
        """A log that took so many changes, with this trace, a completed case and a rule off."""
        log = log_with([trace, []], [paid(), paid()])
        log.complete(1)
        log.switch(1, False)
        for _ in range(147):
            log.put(0, 0, "send")
            log.drop(0, 0)
        self.assertEqual(log.journal().count("\n"), many)
        return log

    def full(self):
        """A log that took 300 changes."""
        return self.filled(["ask", "pay"], 300)

    def test_one_change_beyond_300(self):
        log = self.full()
        kept = state_of(log, 2)
        for method, *arguments in self.CHANGES:
            for kind in [LogFull, CaseError]:
                with self.assertRaises(kind):
                    getattr(log, method)(*arguments)
            self.assertEqual(state_of(log, 2), kept)

    def test_the_300th_change_of_each_kind(self):
        for method, *arguments in self.CHANGES:
            log = self.filled(["ask"], 299)
            getattr(log, method)(*arguments)
            with self.assertRaises(LogFull):
                log.begin()

    def test_refused_comes_first(self):
        log = self.full()
        for call in [("put", 2, 0, "ask"), ("put", 0, 3, "ask"), ("put", 0, 0, "other"),
                     ("drop", 2, 0), ("drop", 0, 2), ("drop", 1, 0), ("complete", 1),
                     ("complete", 5), ("reopen", 0), ("reopen", 2), ("switch", 2, True),
                     ("switch", 0, True), ("switch", 1, False), ("is_completed", 2),
                     ("is_on", 2)]:
            self.refuse(log, *call, rules=2)

    def test_a_trace_of_30_is_refused_first(self):
        log = log_with([["ask"] * 30])
        for _ in range(134):
            log.begin()
            log.complete(len(log.traces()) - 1)
        log.begin()
        self.assertEqual(log.journal().count("\n"), 300)
        self.refuse(log, "put", 0, 0, "ask")
        with self.assertRaises(LogFull):
            log.put(1, 0, "ask")

    def test_asking_goes_on(self):
        log = self.full()
        self.assertEqual(log.verdicts(), [["always", None], ["no", None]])
        self.assertEqual((log.work, log.stale()), (2, []))

    def test_refused_changes_do_not_count(self):
        log = log_with([[]], [paid()])
        for _ in range(400):
            self.assertRaises(Refused, log.drop, 0, 0)
        for number in range(1, 300):
            self.assertEqual(log.begin(), number)
        self.assertRaises(LogFull, log.begin)
        self.assertEqual(len(log.traces()), 300)


class Verdicts(LogTest):
    def setUp(self):
        self.rules = [paid(), at_most(NAMES, "ask", 1)]
        self.log = log_with([["ask"], ["ask", "pay"], ["ask", "ask"]], self.rules)

    def told(self, verdicts, work):
        """Check what is told, and that nothing is missing or not good any more."""
        self.assertEqual(self.log.verdicts(), verdicts)
        self.assertEqual((self.log.work, self.log.stale()), (work, []))
        self.assertEqual(self.log.verdicts(), verdicts)
        self.assertEqual(self.log.work, work)

    def test_of_each_case_and_each_rule(self):
        self.assertEqual(self.log.stale(), [(0, 0), (0, 1), (1, 0), (1, 1), (2, 0), (2, 1)])
        self.told([["no", "yes"], ["always", "yes"], ["no", "never"]], 6)

    def test_no_rules(self):
        log = log_with([["ask"], []])
        self.assertEqual((log.stale(), log.verdicts(), log.work), ([], [[], []], 0))

    def test_after_begin(self):
        self.log.verdicts()
        self.log.begin()
        self.assertEqual(self.log.stale(), [(3, 0), (3, 1)])
        self.told([["no", "yes"], ["always", "yes"], ["no", "never"], ["no", "yes"]], 8)

    def test_after_put(self):
        self.log.verdicts()
        self.log.put(0, 1, "pay")
        self.assertEqual(self.log.stale(), [(0, 0), (0, 1)])
        self.told([["always", "yes"], ["always", "yes"], ["no", "never"]], 8)

    def test_after_drop(self):
        self.log.verdicts()
        self.log.drop(1, 1)
        self.assertEqual(self.log.stale(), [(1, 0), (1, 1)])
        self.told([["no", "yes"], ["no", "yes"], ["no", "never"]], 8)

    def test_after_complete_and_reopen(self):
        expected = self.log.verdicts()
        self.log.complete(0)
        self.told(expected, 6)
        self.log.put(0, 0, "send")
        self.assertEqual(self.log.stale(), [(0, 0), (0, 1)])
        self.told(expected, 8)
        self.log.reopen(0)
        self.told(expected, 8)

    def test_after_off_and_on(self):
        self.log.verdicts()
        self.log.switch(0, False)
        self.assertEqual(self.log.stale(), [])
        self.told([[None, "yes"], [None, "yes"], [None, "never"]], 6)
        self.log.switch(0, True)
        self.assertEqual(self.log.stale(), [])
        self.told([["no", "yes"], ["always", "yes"], ["no", "never"]], 6)

    def test_a_rule_that_is_off_is_not_asked(self):
        self.log.switch(1, False)
        self.assertEqual(self.log.stale(), [(0, 0), (1, 0), (2, 0)])
        self.told([["no", None], ["always", None], ["no", None]], 3)
        self.log.switch(1, True)
        self.assertEqual(self.log.stale(), [(0, 1), (1, 1), (2, 1)])
        self.told([["no", "yes"], ["always", "yes"], ["no", "never"]], 6)

    def test_a_change_while_a_rule_is_off(self):
        self.log.verdicts()
        self.log.switch(1, False)
        self.log.put(0, 1, "ask")
        self.assertEqual(self.log.stale(), [(0, 0)])
        self.told([["no", None], ["always", None], ["no", None]], 7)
        self.log.switch(1, True)
        self.assertEqual(self.log.stale(), [(0, 1)])
        self.told([["no", "never"], ["always", "yes"], ["no", "never"]], 8)

    def test_all_rules_off(self):
        self.log.switch(0, False)
        self.log.switch(1, False)
        self.assertEqual(self.log.stale(), [])
        self.told([[None, None]] * 3, 0)

    def test_back_to_the_trace_of_the_verdict(self):
        expected = self.log.verdicts()
        self.log.put(1, 1, "send")
        self.assertEqual(self.log.stale(), [(1, 0), (1, 1)])
        self.log.drop(1, 1)
        self.assertEqual(self.log.stale(), [])
        self.told(expected, 6)

    def test_back_to_the_same_trace_by_another_way(self):
        expected = self.log.verdicts()
        # From ask, pay to pay, then by the front to ask, pay again.
        self.log.drop(1, 0)
        self.log.put(1, 0, "ask")
        self.told(expected, 6)
        self.log.put(2, 0, "ask")
        self.log.drop(2, 2)
        self.told(expected, 6)

    def test_only_the_verdict_that_was_found_last_is_kept(self):
        expected = self.log.verdicts()
        self.log.put(1, 1, "send")
        self.assertEqual(self.log.verdicts(), expected)
        self.assertEqual(self.log.work, 8)
        self.log.drop(1, 1)
        self.assertEqual(self.log.stale(), [(1, 0), (1, 1)])
        self.told(expected, 10)

    def test_kept_for_each_rule_alone(self):
        self.log.verdicts()
        self.log.switch(1, False)
        self.log.put(0, 1, "send")
        self.log.verdicts()
        self.log.switch(1, True)
        self.assertEqual(self.log.stale(), [(0, 1)])
        self.log.drop(0, 1)
        # The verdict of the second rule is still the one for this trace.
        self.assertEqual(self.log.stale(), [(0, 0)])
        self.told([["no", "yes"], ["always", "yes"], ["no", "never"]], 8)

    def test_the_trace_of_another_case_does_not_help(self):
        log = log_with([["ask"]], self.rules)
        log.verdicts()
        log.begin()
        log.put(1, 0, "ask")
        self.assertEqual(log.stale(), [(1, 0), (1, 1)])
        log.verdicts()
        self.assertEqual(log.work, 4)

    def test_the_same_rule_twice(self):
        rule = paid()
        log = log_with([["ask"]], [rule, rule])
        self.assertEqual((log.verdicts(), log.work), ([["no", "no"]], 2))

    def test_changes_between_questions_count_once(self):
        self.log.verdicts()
        for place in range(5):
            self.log.put(0, place, "send")
        self.log.put(2, 0, "send")
        self.assertEqual(self.log.stale(), [(0, 0), (0, 1), (2, 0), (2, 1)])
        self.told([["no", "yes"], ["always", "yes"], ["no", "never"]], 10)

    def test_asking_for_anything_else_counts_nothing(self):
        for _ in range(3):
            self.log.traces()
            self.log.completed()
            self.log.stale()
            self.log.journal()
            for number in range(2):
                self.log.is_on(number)
                self.log.is_completed(number)
        self.assertEqual(self.log.work, 0)
        self.assertEqual(len(self.log.stale()), 6)

    def test_changes_count_nothing(self):
        self.log.verdicts()
        self.log.put(0, 0, "pay")
        self.log.switch(0, False)
        self.log.switch(0, True)
        self.log.complete(0)
        self.assertEqual(self.log.work, 6)

    def test_all_four_verdicts(self):
        rule = Rule([True, False, True, False],
                    [[1, 2, 3], [0, 2, 3], [2, 2, 2], [3, 3, 3]])
        log = log_with([[], ["ask"], ["pay"], ["send"]], [rule, rejecting(NAMES, ["ask"])])
        self.assertEqual(log.verdicts(), [["yes", "yes"], ["no", "no"], ["always", "always"],
                                          ["never", "always"]])

    def test_kinds(self):
        self.log.switch(1, False)
        found = self.log.verdicts()
        self.assertIs(type(found), list)
        self.assertEqual([type(row) for row in found], [list] * 3)
        self.assertIs(type(self.log.work), int)
        self.log.switch(1, True)
        self.assertIs(type(self.log.stale()), list)
        self.assertEqual({type(pair) for pair in self.log.stale()}, {tuple})

    def test_work_is_read_without_a_call(self):
        self.assertIsInstance(vars(Log)["work"], property)
        with self.assertRaises(AttributeError):
            self.log.work = 5


class Arguments(LogTest):
    def test_changes_of_the_setting_that_was_passed(self):
        names, rules = ["ask", "pay", "send"], [paid()]
        setting = Setting(names, 2, rules)
        log = Log(setting)
        log.begin()
        names[0] = "other"
        rules[0].accepting = (False, False)
        setting.rules[0].accepting = (True, True)
        setting.rules[0].moves = ((0, 0, 0), (0, 0, 0))
        setting.rules = ()
        setting.names = ("other",)
        setting.size = 1
        log.put(0, 0, "ask")
        self.assertEqual(log.verdicts(), [["no"]])
        log.put(0, 1, "pay")
        self.assertEqual(log.verdicts(), [["always"]])
        self.refuse(log, "put", 0, 0, "other", rules=1)

    def test_the_setting_is_not_modified(self):
        setting = setting_with([paid()])
        kept = (setting.names, setting.size, setting.rules, setting.optional,
                setting.rules[0].accepting, setting.rules[0].moves)
        log = Log(setting)
        log.begin()
        log.put(0, 0, "ask")
        log.switch(0, False)
        self.assertEqual((setting.names, setting.size, setting.rules, setting.optional,
                          setting.rules[0].accepting, setting.rules[0].moves), kept)
        self.assertIs(Log(setting).is_on(0), True)
        self.assertEqual(Log(setting).traces(), [])

    def test_changes_of_lists_that_were_returned(self):
        log = log_with([["ask"], ["pay"]], [paid()])
        log.complete(0)
        log.verdicts()
        log.put(1, 0, "send")
        kept = state_of(log, 1)
        for method in ["traces", "completed"]:
            getattr(log, method)()[0].append("pay")
            getattr(log, method)().clear()
        log.stale().clear()
        self.assertEqual(state_of(log, 1), kept)
        log.verdicts()[0][0] = "never"
        log.verdicts().clear()
        self.assertEqual(log.verdicts(), [["no"], ["always"]])

    def test_what_was_returned_stays(self):
        log = log_with([["ask"], ["pay"]], [paid()])
        log.complete(0)
        found = [log.traces(), log.completed(), log.stale(), log.verdicts(), log.journal()]
        kept = [log.traces(), log.completed(), [(0, 0), (1, 0)], [["no"], ["always"]],
                log.journal()]
        log.put(0, 0, "pay")
        log.drop(1, 0)
        log.complete(1)
        log.switch(0, False)
        log.begin()
        log.verdicts()
        self.assertEqual(found, kept)

    def test_two_logs_of_one_setting(self):
        setting = setting_with([paid()])
        first, second = Log(setting), Log(setting)
        first.begin()
        first.switch(0, False)
        self.assertEqual(state_of(second, 1), ([], [], [], [True], [], 0, ""))
        self.assertEqual(second.begin(), 0)
        self.assertEqual(second.verdicts(), [["no"]])

    def test_names_in_another_order(self):
        rule = Rule([False, True], [[0, 1], [1, 1]])
        for names, expected in [(["a", "b"], ["no", "always"]), (["b", "a"], ["always", "no"])]:
            log = Log(Setting(names, 1, [rule]))
            for activity in ["a", "b"]:
                log.put(log.begin(), 0, activity)
            self.assertEqual([row[0] for row in log.verdicts()], expected)


class Model:
    """What a log should tell, kept as plainly as can be."""

    def __init__(self, setting):
        self.setting = setting
        self.cases = []
        self.on = [True] * len(setting.rules)
        self.kept = {}
        self.work = 0
        self.changes = 0

    def allows(self, word, *told):
        """Whether the change is not refused."""
        if word == "begin":
            return True
        if word == "switch":
            return told[0] < len(self.on) and self.on[told[0]] != told[1]
        if told[0] >= len(self.cases):
            return False
        trace, ended = self.cases[told[0]]
        if word == "put":
            known = told[2] in self.setting.names
            return told[1] <= len(trace) < 30 and known
        if word == "drop":
            return told[1] < len(trace)
        return ended == (word == "reopen")

    def change(self, word, *told):
        """Make a change that is not refused."""
        self.changes += 1
        if word == "begin":
            self.cases.append([[], False])
        elif word == "switch":
            self.on[told[0]] = told[1]
        elif word == "put":
            self.cases[told[0]][0].insert(told[1], told[2])
        elif word == "drop":
            del self.cases[told[0]][0][told[1]]
        else:
            self.cases[told[0]][1] = word == "complete"

    def verdicts(self):
        """The verdicts, and how many were found."""
        found = []
        for case, (trace, _) in enumerate(self.cases):
            found.append([])
            for number, rule in enumerate(self.setting.rules):
                if self.on[number]:
                    if self.kept.get((case, number)) != trace:
                        self.kept[case, number] = list(trace)
                        self.work += 1
                    found[-1].append(verdict(rule, self.setting.names, trace))
                else:
                    found[-1].append(None)
        return found


class AgainstModel(LogTest):
    def some_change(self, draw):
        case, place = draw.randint(0, 4), draw.choice([0, 0, 0, 1, 1, 2, 3])
        return draw.choice([
            ("begin",), ("put", case, place, draw.choice(["a", "a", "b", "b", "c"])),
            ("put", case, place, draw.choice(["a", "b"])), ("drop", case, place),
            ("complete", case), ("reopen", case),
            ("switch", draw.randint(0, 2), draw.choice([True, False])),
        ])

    def test_many_changes(self):
        draw, refused, full = random.Random(90), 0, 0
        for _ in range(25):
            names = ["b", "a"]
            setting = Setting(names, 2, [some_rule(draw, names) for _ in range(2)])
            log, model = Log(setting), Model(setting)
            for _ in range(900):
                word, *told = self.some_change(draw)
                if word == "begin" and len(model.cases) == 5:
                    continue
                if not model.allows(word, *told):
                    self.assertRaises(Refused, getattr(log, word), *told)
                    refused += 1
                elif model.changes == 300:
                    self.assertRaises(LogFull, getattr(log, word), *told)
                    full += 1
                else:
                    getattr(log, word)(*told)
                    model.change(word, *told)
                if draw.random() < 0.1:
                    self.compare(log, model)
        self.assertGreater(min(refused, full), 20)

    def compare(self, log, model):
        self.assertEqual(log.traces(), [trace for trace, _ in model.cases])
        self.assertEqual(log.completed(), [trace for trace, ended in model.cases if ended])
        self.assertEqual([log.is_on(rule) for rule in range(2)], model.on)
        stale = [(case, rule) for case, (trace, _) in enumerate(model.cases) for rule in range(2)
                 if model.on[rule] and model.kept.get((case, rule)) != trace]
        self.assertEqual(log.stale(), stale)
        self.assertEqual(log.verdicts(), model.verdicts())
        self.assertEqual(log.work, model.work)


if __name__ == "__main__":
    unittest.main()
