"""Points 19 and 20: variants with activities that are recorded late, and certain answers."""

import itertools
import random
import unittest

from caseslive.answers import answer, certain_answer, variants
from caseslive.errors import CaseError, TooLarge, TooManyWays
from caseslive.settings import Setting
from tests.helpers import (
    FOUR, WALKS, answer_by_trying, at_most, capped_rules, many_ways, rejecting, round_rules,
    some_cases, traces_up_to,
)

ABC = ["a", "b", "c"]


def is_late(trace, last, late):
    """Whether the trace is the last activities with late ones put in."""
    if not trace:
        return not last
    if last and trace[0] == last[0] and is_late(trace[1:], last[1:], late):
        return True
    if late.get(trace[0], 0) == 0:
        return False
    return is_late(trace[1:], last, {**late, trace[0]: late[trace[0]] - 1})


def variants_by_trying(running, late, places, names):
    """The variants, from all traces that are long enough."""
    kept = max(0, len(running) - places)
    most = len(running) - kept + sum(late.values())
    return [running[:kept] + trace for trace in traces_up_to(names, most)
            if is_late(trace, running[kept:], late)]


def certain_by_trying(setting, traces, running, activity, late, places):
    """The certain answer, from the answers of all variants."""
    found = [answer_by_trying(setting, traces, trace, activity)
             for trace in variants_by_trying(running, late, places, setting.names)]
    columns = [{row is not None for row in found}]
    for item in range(4):
        columns.append({None if row is None else row[item] for row in found})
    return tuple(column.pop() if len(column) == 1 else None for column in columns)


class Variants(unittest.TestCase):
    def check(self, running, late, places, expected, names=("a", "b", "c")):
        self.assertEqual(variants(list(running), late, places, names),
                         [list(trace) for trace in expected])

    def test_0_places(self):
        self.check("ab", {"c": 1}, 0, ["ab", "abc"])
        self.check("ab", {"c": 2}, 0, ["ab", "abc", "abcc"])
        self.check("ab", {"c": 1, "a": 1}, 0, ["ab", "aba", "abc", "abac", "abca"])

    def test_1_place(self):
        self.check("ab", {"c": 1}, 1, ["ab", "abc", "acb"])
        self.check("aab", {"c": 1}, 1, ["aab", "aabc", "aacb"])

    def test_2_and_3_places(self):
        self.check("aab", {"c": 1}, 2, ["aab", "aabc", "aacb", "acab"])
        self.check("aab", {"c": 1}, 3, ["aab", "aabc", "aacb", "acab", "caab"])
        self.check("baab", {"c": 1}, 3, ["baab", "baabc", "baacb", "bacab", "bcaab"])

    def test_more_places_than_the_trace_is_long(self):
        self.check("ab", {"c": 1}, 3, ["ab", "abc", "acb", "cab"])
        self.check("a", {"c": 1}, 2, ["a", "ac", "ca"])

    def test_the_empty_running_trace(self):
        for places in range(4):
            self.check("", {"b": 1}, places, ["", "b"])
            self.check("", {"b": 2}, places, ["", "b", "bb"])
            self.check("", {}, places, [""])

    def test_no_late_activities(self):
        for places in range(4):
            self.check("abca", {}, places, ["abca"])

    def test_one_activity_twice(self):
        self.check("a", {"c": 2}, 1, ["a", "ac", "ca", "acc", "cac", "cca"])
        self.check("ba", {"c": 2}, 1, ["ba", "bac", "bca", "bacc", "bcac", "bcca"])

    def test_the_late_activity_is_among_the_last_ones(self):
        self.check("c", {"c": 1}, 1, ["c", "cc"])
        self.check("cc", {"c": 2}, 3, ["cc", "ccc", "cccc"])
        self.check("ac", {"c": 1}, 2, ["ac", "acc", "cac"])
        self.check("ac", {"c": 1}, 1, ["ac", "acc"])
        self.check("aba", {"a": 1}, 3, ["aba", "aaba", "abaa"])

    def test_several_late_activities(self):
        self.check("a", {"b": 1, "c": 1}, 1, [
            "a", "ab", "ac", "ba", "ca", "abc", "acb", "bac", "bca", "cab", "cba",
        ])

    def test_the_most_that_there_are(self):
        names = list("edcba")
        found = variants(list("abede"), {"d": 2, "c": 1}, 3, names)
        self.assertEqual(found, variants_by_trying(list("abede"), {"d": 2, "c": 1}, 3, names))
        self.assertEqual(max(len(trace) for trace in found), 8)
        found = variants(list("abaab"), {"c": 1, "d": 1, "e": 1}, 3, names)
        self.assertEqual(len(found), 1 + 3 * 4 + 3 * 4 * 5 + 4 * 5 * 6)

    def test_the_order_is_that_of_names(self):
        self.check("a", {"c": 1}, 1, ["a", "ca", "ac"], ("c", "b", "a"))
        self.check("a", {"c": 1, "b": 1}, 0, ["a", "ac", "ab", "acb", "abc"], ("c", "a", "b"))
        for names in itertools.permutations(["a", "b", "c"]):
            for late in [{"a": 1, "b": 1, "c": 1}, {"c": 1, "a": 2}, {"b": 2, "c": 1}]:
                self.assertEqual(variants(list("cab"), late, 2, names),
                                 variants_by_trying(list("cab"), late, 2, names))

    def test_longer_names(self):
        names = ["send", "ask", "pay"]
        self.assertEqual(variants(["ask", "pay"], {"send": 1}, 1, names),
                         [["ask", "pay"], ["ask", "send", "pay"], ["ask", "pay", "send"]])

    def test_the_order_of_late_does_not_matter(self):
        for late in itertools.permutations([("a", 1), ("b", 1), ("c", 1)]):
            self.assertEqual(variants(["b", "c"], dict(late), 2, ABC),
                             variants_by_trying(["b", "c"], dict(late), 2, ABC))

    def test_against_trying(self):
        draw = random.Random(40)
        for _ in range(60):
            names = draw.sample(ABC, 3)
            running = [draw.choice(names) for _ in range(draw.randint(0, 4))]
            late = {}
            while sum(late.values()) < draw.randint(0, 3):
                activity = draw.choice(names)
                late[activity] = min(2, late.get(activity, 0) + 1)
            places = draw.randint(0, 3)
            found = variants(running, late, places, names)
            self.assertEqual(found, variants_by_trying(running, late, places, names))
            self.assertEqual(len(found), len({tuple(trace) for trace in found}))

    def test_kinds(self):
        for running in [["a", "b"], ("a", "b")]:
            for names in [ABC, tuple(ABC)]:
                found = variants(running, {"c": 1}, 1, names)
                self.assertEqual(found, [["a", "b"], ["a", "b", "c"], ["a", "c", "b"]])
                self.assertIs(type(found), list)
                self.assertEqual({type(trace) for trace in found}, {list})

    def test_nothing_is_modified_and_the_lists_are_new(self):
        running, late, names = ["a", "b"], {"c": 1}, ["c", "b", "a"]
        found = variants(running, late, 1, names)
        self.assertEqual((running, late, names), (["a", "b"], {"c": 1}, ["c", "b", "a"]))
        for trace in found:
            trace.clear()
        self.assertEqual(running, ["a", "b"])
        self.assertEqual(variants(running, {}, 0, names), [["a", "b"]])

    def test_by_their_names(self):
        self.assertEqual(variants(names=["a"], places=0, late={"a": 1}, running=[]), [[], ["a"]])


class CertainAnswers(unittest.TestCase):
    def test_no_late_activities_is_the_answer_itself(self):
        setting = Setting(ABC, 2, [], [("b", ">")])
        for running in traces_up_to(ABC, 3):
            for activity in ABC:
                found = certain_answer(setting, [["a", "b", "c"]], running, activity, {}, 2)
                expected = answer(setting, [["a", "b", "c"]], running, activity)
                if expected is None:
                    self.assertEqual(found, (False, None, None, None, None))
                else:
                    self.assertEqual(found, (True, *expected))

    def test_the_same_in_all_variants(self):
        setting = Setting(ABC, 2)
        traces = [["a", "c"], ["a", "b", "c"]]
        self.assertEqual(certain_answer(setting, traces, ["a"], "c", {"b": 1}, 0), (True,) * 5)
        self.assertEqual(certain_answer(setting, traces, ["a"], "a", {"b": 1}, 0),
                         (True, False, False, False, False))

    def test_different_values(self):
        # `b` can come after `a`, but not after `a`, `b`.
        setting = Setting(ABC, 2)
        traces = [["a", "c"], ["a", "b", "c"]]
        self.assertEqual(certain_answer(setting, traces, ["a"], "b", {"b": 1}, 0),
                         (True, None, None, False, False))
        # `b` must come after `a`, and cannot come any more after `a`, `b`.
        self.assertEqual(certain_answer(setting, [["a", "b", "c"]], ["a"], "b", {"b": 1}, 0),
                         (True, None, None, None, None))

    def test_some_variants_cannot_go_on(self):
        setting = Setting(ABC, 2)
        traces = [["a", "b"]]
        self.assertEqual(certain_answer(setting, traces, ["a"], "b", {"c": 1}, 0), (None,) * 5)
        self.assertEqual(certain_answer(setting, traces, ["b"], "b", {"a": 1}, 1), (None,) * 5)

    def test_no_variant_can_go_on(self):
        setting = Setting(ABC, 2, [], [("c", "a")])
        self.assertEqual(certain_answer(setting, [["a", "b"]], ["c"], "b", {"a": 1, "b": 2}, 1),
                         (False, None, None, None, None))
        setting = Setting(ABC, 2, [at_most(ABC, "a", 0)])
        self.assertEqual(certain_answer(setting, [["a", "b"]], ["a"], "b", {"b": 1}, 0),
                         (False, None, None, None, None))

    def test_variants_may_go_on_in_different_processes(self):
        # `b` needs the first free window, `c`, `b` the other two; not all three are allowed.
        setting = Setting(ABC, 2, [rejecting(ABC, ["b", "c", "b", "c"])],
                          [("<", "b"), ("<", "c"), ("c", "b")])
        traces = [["a", "b", "c"]]
        self.assertEqual(certain_answer(setting, traces, ["b"], "a", {"c": 1}, 1),
                         (True, False, False, False, False))
        self.assertEqual(certain_answer(setting, traces, ["b"], "c", {"c": 1}, 1),
                         (True, None, None, None, None))

    def test_places(self):
        setting = Setting(ABC, 2)
        traces = [["a", "b"], ["c", "a", "b"]]
        self.assertEqual(certain_answer(setting, traces, ["a"], "b", {"c": 1}, 1), (None,) * 5)
        traces = [["a", "b"], ["c", "a", "b"], ["a", "c", "b"]]
        self.assertEqual(certain_answer(setting, traces, ["a"], "b", {"c": 1}, 1), (True,) * 5)

    def test_kinds(self):
        setting = Setting(ABC, 2)
        found = certain_answer(setting, (("a", "b"),), ("a",), "b", {}, 0)
        self.assertEqual(found, (True,) * 5)
        self.assertIs(type(found), tuple)
        for late in [{"b": 1}, {"c": 1}]:
            found = certain_answer(setting, [["a", "b"]], ["a"], "b", late, 0)
            for item in found:
                self.assertIn(type(item), [bool, type(None)])

    def test_by_their_names(self):
        found = certain_answer(places=0, late={}, activity="a", running=[], traces=[["a"]],
                               setting=Setting(["a"], 2))
        self.assertEqual(found, (True,) * 5)

    def test_nothing_is_modified(self):
        setting = Setting(ABC, 2, [], [("b", "c")])
        traces, running, late = [["a", "b"], ["c"]], ["a"], {"b": 1, "c": 1}
        certain_answer(setting, traces, running, "c", late, 1)
        self.assertEqual((traces, running), ([["a", "b"], ["c"]], ["a"]))
        self.assertEqual(late, {"b": 1, "c": 1})
        self.assertEqual((setting.names, setting.optional), (tuple(ABC), (("b", "c"),)))

    def test_against_trying(self):
        draw, seen = random.Random(41), [set() for _ in range(5)]
        for setting, traces in some_cases(42, 150, 3):
            running = list(draw.choice(traces))[:2] if traces else []
            late = {activity: 1 for activity in draw.sample(setting.names, 1)}
            for activity in setting.names:
                for places in [0, 2]:
                    found = certain_answer(setting, traces, running, activity, late, places)
                    self.assertEqual(found, certain_by_trying(setting, traces, running, activity,
                                                              late, places))
                    for place, item in enumerate(found):
                        seen[place].add(item)
        self.assertEqual(seen, [{True, False, None}] * 5)


class Limits(unittest.TestCase):
    def test_1000_ways(self):
        setting, traces = many_ways()
        expected = answer(setting, traces, ["a"], "d")
        self.assertEqual(certain_answer(setting, traces, ["a"], "d", {}, 1), (True, *expected))

    def test_1001_ways_of_one_variant(self):
        setting, traces = many_ways()
        for kind in [TooManyWays, CaseError]:
            with self.assertRaises(kind):
                certain_answer(setting, traces, [], "d", {"a": 1}, 0)

    def test_too_many_ways_of_a_later_variant(self):
        setting, traces = many_ways()
        answer(setting, traces, ["a", "b"], "d")
        with self.assertRaises(TooManyWays):
            certain_answer(setting, traces, ["a", "b"], "d", {"d": 1}, 0)

    def test_too_many_ways_although_another_variant_has_no_answer(self):
        setting, traces = many_ways()
        self.assertIsNone(answer(setting, traces, ["b", "d"], "d"))
        with self.assertRaises(TooManyWays):
            certain_answer(setting, traces, ["b", "d"], "d", {"a": 1}, 2)

    def test_500_spots(self):
        setting = Setting(FOUR, 2, capped_rules())
        self.assertEqual(certain_answer(setting, WALKS, ["a"], "b", {"c": 1}, 1),
                         (True, True, True, False, False))

    def test_too_large_comes_first(self):
        with self.assertRaises(TooLarge):
            certain_answer(Setting(FOUR, 2, capped_rules(), [("a", "b")]), WALKS, ["a"], "b", {}, 0)
        setting, traces = many_ways()
        with self.assertRaises(TooLarge):
            certain_answer(Setting(FOUR, 2, round_rules(), setting.optional), traces, [], "d",
                           {"a": 1}, 0)


if __name__ == "__main__":
    unittest.main()
