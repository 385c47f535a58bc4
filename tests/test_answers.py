"""Points 13, 14, 15 and 18: answers about running traces, and their limits."""

import itertools
import random
import unittest

from caseslive.answers import answer
from caseslive.errors import CaseError, TooLarge, TooManyWays
from caseslive.rules import Rule
from caseslive.settings import Setting
from tests.helpers import (
    FOUR, WALKS, allows_by_trying, answer_by_trying, at_most, capped_rules, fitting_by_trying,
    many_ways, rejecting, round_rules, some_cases, traces_up_to, ways_by_trying,
)

NAMES = ["ask", "pay", "send"]
ABC = ["a", "b", "c"]


def flags_over_traces(process, names, running, activity, length):
    """For the allowed traces with so many activities more, whether the activity occurs there."""
    found = set()
    for more in traces_up_to(names, length):
        if allows_by_trying(process.size, process.windows, [*running, *more]):
            found.add(activity in more)
    return found


class TheExample(unittest.TestCase):
    SETTING = Setting(["ask", "pay", "send"], 2, [], [("pay", ">")])
    TRACES = [["ask", "pay", "send"]]

    def test_as_in_the_document(self):
        self.assertEqual(answer(self.SETTING, self.TRACES, ["ask"], "send"),
                         (True, True, True, False))
        self.assertIsNone(answer(self.SETTING, self.TRACES, ["pay"], "send"))

    def test_other_questions(self):
        self.assertEqual(answer(self.SETTING, self.TRACES, ["ask"], "pay"), (True,) * 4)
        self.assertEqual(answer(self.SETTING, self.TRACES, ["ask"], "ask"), (False,) * 4)
        self.assertEqual(answer(self.SETTING, self.TRACES, [], "ask"), (True,) * 4)
        self.assertEqual(answer(self.SETTING, self.TRACES, ["ask", "pay", "send"], "send"),
                         (False,) * 4)


class AllSixAnswers(unittest.TestCase):
    def test_never(self):
        setting = Setting(ABC, 2, [], [("a", ">")])
        self.assertEqual(answer(setting, [["a", "b"]], ["a"], "c"), (False, False, False, False))

    def test_can_in_some(self):
        # With both free windows `c` can come, but `a`, `b` is still allowed.
        setting = Setting(ABC, 2, [], [("a", "c"), ("c", "b")])
        self.assertEqual(answer(setting, [["a", "b"]], ["a"], "c"), (True, False, False, False))

    def test_can_in_every(self):
        setting = Setting(ABC, 2, [], [("c", "c")])
        self.assertEqual(answer(setting, [["a"], ["a", "c"]], ["a"], "c"),
                         (True, True, False, False))

    def test_can_in_some_and_must_in_some(self):
        # After `b` one process can only stop, another one must continue by `c`.
        setting = Setting(ABC, 2, [], [("<", "b"), ("b", ">"), ("b", "c"), ("c", ">")])
        self.assertEqual(answer(setting, [["a"]], ["b"], "c"), (True, False, True, False))

    def test_can_in_every_and_must_in_some(self):
        setting = Setting(ABC, 2, [], [("b", ">")])
        self.assertEqual(answer(setting, [["a", "b", "c"]], ["a"], "c"), (True, True, True, False))

    def test_must_in_every(self):
        setting = Setting(ABC, 2, [], [("a", "a"), ("<", "b")])
        self.assertEqual(answer(setting, [["a", "b"]], ["a"], "b"), (True, True, True, True))

    def test_booleans_and_tuples(self):
        setting = Setting(ABC, 2, [], [("a", "c"), ("c", "b")])
        found = answer(setting, [["a", "b"]], ["a"], "c")
        self.assertIs(type(found), tuple)
        self.assertEqual([type(item) for item in found], [bool] * 4)


class NoProcess(unittest.TestCase):
    def test_the_family_does_not_allow_the_running_trace(self):
        setting = Setting(ABC, 2, [], [("c", "b"), ("b", "c")])
        for running in [["c"], ["a", "c"], ["a", "b", "a"]]:
            self.assertIsNone(answer(setting, [["a", "b"]], running, "b"))

    def test_the_least_process_does_not_fit(self):
        setting = Setting(ABC, 2, [at_most(ABC, "a", 1)], [("b", ">")])
        self.assertIsNone(answer(setting, [["a", "a"]], ["a"], "a"))
        self.assertIsNone(answer(setting, [["a", "a"], ["b"]], ["b"], "a"))

    def test_only_refused_windows_would_help(self):
        setting = Setting(ABC, 2, [rejecting(ABC, ["c"])], [("<", "c"), ("c", ">"), ("c", "b")])
        self.assertIsNone(answer(setting, [["a"]], ["c"], "b"))
        self.assertEqual(answer(setting, [["a", "b"]], ["c"], "b"), (True, True, True, True))

    def test_no_process_can_stop(self):
        setting = Setting(ABC, 2, [], [("<", "b"), ("b", "b")])
        self.assertIsNone(answer(setting, [["a"]], ["b"], "b"))
        setting = Setting(ABC, 3, [], [("<", "<", "b"), ("b", ">", ">")])
        self.assertIsNone(answer(setting, [["a"]], ["b"], "b"))
        setting = Setting(ABC, 3, [], [("<", "<", "b"), ("b", ">", ">"), ("<", "b", ">")])
        self.assertEqual(answer(setting, [["a"]], ["b"], "b"), (False,) * 4)

    def test_stopping_would_break_a_rule(self):
        # `b` can begin in a process that fits, but not stop in one.
        setting = Setting(["a", "b"], 2, [at_most(["a", "b"], "b", 0)], [("<", "b"), ("b", ">")])
        self.assertIsNone(answer(setting, [["a"]], ["b"], "a"))

    def test_no_completed_traces(self):
        setting = Setting(["a"], 2, [], [("<", "a"), ("a", "a")])
        self.assertIsNone(answer(setting, [], [], "a"))
        self.assertIsNone(answer(setting, [], ["a"], "a"))


class Details(unittest.TestCase):
    def test_an_activity_only_before_the_end_of_the_running_trace(self):
        setting = Setting(ABC, 2, [], [("b", "c")])
        traces = [["a", "b"], ["c"]]
        self.assertEqual(answer(setting, traces, ["a"], "a"), (False,) * 4)
        self.assertEqual(answer(setting, traces, ["a", "b"], "b"), (False,) * 4)
        self.assertEqual(answer(setting, traces, ["a", "b"], "c"), (True, False, False, False))

    def test_the_running_trace_itself_may_be_the_whole_one(self):
        setting = Setting(["a"], 2)
        self.assertEqual(answer(setting, [["a", "a"]], ["a"], "a"), (True, True, False, False))
        self.assertEqual(answer(setting, [["a"]], ["a"], "a"), (False,) * 4)

    def test_the_empty_running_trace(self):
        for size in [1, 2, 3]:
            setting = Setting(ABC, size)
            must = size > 1
            self.assertEqual(answer(setting, [["a", "b"]], [], "a"), (True, True, must, must))
            self.assertEqual(answer(setting, [[]], [], "a"), (False,) * 4)

    def test_windows_that_the_running_trace_uses_stay_used(self):
        # The running trace needs ("b", "a"), and with it no other free window is allowed.
        rule = rejecting(ABC, ["b", "a", "c"])
        setting = Setting(ABC, 2, [rule], [("b", "a"), ("a", "c")])
        traces = [["b"], ["a"], ["c"]]
        self.assertEqual(answer(setting, traces, ["b", "a"], "c"), (False,) * 4)
        self.assertEqual(answer(setting, traces, ["a"], "c"), (True, False, False, False))

    def test_windows_are_needed_together(self):
        # Each of the free windows alone is allowed, both together are not.
        names = ["a", "b", "c", "d"]
        setting = Setting(names, 2, [rejecting(names, ["a", "b", "c", "d"])],
                          [("a", "b"), ("c", "d")])
        traces = [["a"], ["b", "c"], ["d"]]
        self.assertEqual(answer(setting, traces, ["a"], "c"), (True, False, False, False))
        self.assertEqual(answer(setting, traces, ["a"], "d"), (False,) * 4)
        self.assertEqual(answer(setting, traces, ["b"], "d"), (True, False, False, False))

    def test_size_1(self):
        setting = Setting(ABC, 1, [at_most(ABC, "c", 0)], [("b",), ("c",)])
        self.assertEqual(answer(setting, [["a"]], [], "b"), (True, False, False, False))
        self.assertEqual(answer(setting, [["a"]], ["b"], "b"), (True, True, False, False))
        self.assertEqual(answer(setting, [["a"]], ["b"], "c"), (False,) * 4)
        self.assertIsNone(answer(setting, [["a"]], ["c"], "b"))

    def test_long_running_traces(self):
        setting = Setting(ABC, 3, [], [("a", "a", "b")])
        self.assertEqual(answer(setting, [["a", "a", "a"], ["b"]], ["a"] * 3000, "b"), (False,) * 4)

    def test_the_order_of_names_and_windows_does_not_matter(self):
        optional = [("<", "b"), ("b", ">"), ("b", "c"), ("c", ">")]
        for names in itertools.permutations(ABC):
            for windows in itertools.permutations(optional):
                setting = Setting(names, 2, [], windows)
                self.assertEqual(answer(setting, [["a"]], ["b"], "c"), (True, False, True, False))


class AgainstTrying(unittest.TestCase):
    def test_all_sets_of_free_windows(self):
        seen = set()
        for setting, traces in some_cases(30, 150, 5):
            for running in traces_up_to(setting.names, 2):
                for activity in setting.names:
                    found = answer(setting, traces, running, activity)
                    expected = answer_by_trying(setting, traces, running, activity)
                    self.assertEqual(found, expected, (vars(setting), traces, running, activity))
                    seen.add(found)
        # The six answers that are possible, and None.
        self.assertEqual(len(seen), 7)

    def test_8_optional_windows(self):
        for setting, traces in some_cases(31, 12, 8):
            running = traces[0][:1] if traces else []
            for activity in setting.names:
                self.assertEqual(answer(setting, traces, running, activity),
                                 answer_by_trying(setting, traces, running, activity))

    def test_all_traces_that_go_on(self):
        draw = random.Random(32)
        for setting, traces in some_cases(33, 40, 3):
            if len(setting.names) == 3 or setting.size == 3:
                continue
            running, activity = [draw.choice(setting.names)], draw.choice(setting.names)
            can, must = [], []
            for process in fitting_by_trying(setting, traces).values():
                flags = flags_over_traces(process, setting.names, running, activity, 5)
                if flags:
                    can.append(True in flags)
                    must.append(False not in flags)
            expected = (any(can), all(can), any(must), all(must)) if can else None
            self.assertEqual(answer(setting, traces, running, activity), expected)


class Limits(unittest.TestCase):
    def test_1000_ways(self):
        setting, traces = many_ways()
        self.assertEqual(len(ways_by_trying(setting, traces, ["a"], "d")), 1000)
        self.assertEqual(answer(setting, traces, ["a"], "d"),
                         answer_by_trying(setting, traces, ["a"], "d"))

    def test_1001_ways(self):
        setting, traces = many_ways()
        self.assertEqual(len(ways_by_trying(setting, traces, [], "d")), 1001)
        for kind in [TooManyWays, CaseError]:
            with self.assertRaises(kind):
                answer(setting, traces, [], "d")

    def test_the_activity_counts(self):
        setting, traces = many_ways()
        self.assertEqual(len(ways_by_trying(setting, traces, [], "c")), 929)
        self.assertEqual(answer(setting, traces, [], "c"),
                         answer_by_trying(setting, traces, [], "c"))

    def test_no_ways_are_not_too_many(self):
        setting, traces = many_ways()
        self.assertIsNone(answer(setting, traces, ["b"], "d"))

    def test_500_spots(self):
        setting = Setting(FOUR, 2, capped_rules())
        self.assertEqual(answer(setting, WALKS, ["a"], "b"), (True, True, False, False))

    def test_too_many_spots_with_all_free_windows(self):
        for optional in [[("a", "b")], [("d", "b")], [("d", "b"), ("a", "b")]]:
            with self.assertRaises(TooLarge):
                answer(Setting(FOUR, 2, capped_rules(), optional), WALKS, ["a"], "b")

    def test_501_spots_come_before_everything(self):
        setting = Setting(FOUR, 2, round_rules(), [("a", "b"), ("d", "b")])
        for running in [["a"], [], ["a", "b"], ["a"] * 100]:
            with self.assertRaises(TooLarge):
                answer(setting, WALKS, running, "b")

    def test_too_large_before_too_many_ways(self):
        setting, traces = many_ways()
        fewer = Setting(FOUR, 2, round_rules()[:2], setting.optional)
        with self.assertRaises(TooManyWays):
            answer(fewer, traces, [], "d")
        more = Setting(FOUR, 2, round_rules(), setting.optional)
        with self.assertRaises(TooLarge):
            answer(more, traces, [], "d")

    def test_too_large_where_the_answer_would_be_none(self):
        first, second, third = round_rules()
        strict = Rule([True] + [False] * 4, first.moves)
        fewer = Setting(FOUR, 2, [strict, second], [("a", "b"), ("d", "b")])
        self.assertIsNone(answer(fewer, WALKS, ["a"], "b"))
        more = Setting(FOUR, 2, [strict, second, third], [("a", "b"), ("d", "b")])
        with self.assertRaises(TooLarge):
            answer(more, WALKS, ["a"], "b")


class Arguments(unittest.TestCase):
    def test_lists_and_tuples(self):
        setting = Setting(NAMES, 2, [], [("pay", ">")])
        for traces in [[("ask", "pay", "send")], (["ask", "pay", "send"],)]:
            for running in [["ask"], ("ask",)]:
                self.assertEqual(answer(setting, traces, running, "send"),
                                 (True, True, True, False))

    def test_by_their_names(self):
        setting = Setting(NAMES, 2)
        self.assertEqual(answer(activity="ask", running=[], traces=[["ask"]], setting=setting),
                         (True,) * 4)

    def test_nothing_is_modified(self):
        setting = Setting(NAMES, 2, [at_most(NAMES, "ask", 1)], [("pay", ">")])
        kept = (setting.names, setting.size, setting.rules, setting.optional)
        traces, running = [["ask", "pay", "send"]], ["ask"]
        answer(setting, traces, running, "send")
        self.assertEqual((traces, running), ([["ask", "pay", "send"]], ["ask"]))
        self.assertEqual((setting.names, setting.size, setting.rules, setting.optional), kept)

    def test_calls_do_not_depend_on_earlier_ones(self):
        setting = Setting(NAMES, 2, [], [("pay", ">")])
        traces = [["ask", "pay", "send"]]
        first = answer(setting, traces, ["ask"], "send")
        traces.append(["ask"])
        self.assertEqual(answer(setting, traces, ["ask"], "send"), (True, True, False, False))
        traces.pop()
        self.assertEqual(answer(setting, traces, ["ask"], "send"), first)


if __name__ == "__main__":
    unittest.main()
