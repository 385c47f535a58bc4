"""Points 1, 2, 6, 7 and 8: windows, processes and tails."""

import itertools
import unittest

from caseslive.errors import CaseError, InvalidProcess
from caseslive.processes import (
    Process, allows, can_stop, next_tails, tail_of, windows_of,
)
from tests.helpers import traces_up_to

NAMES = ("ask", "pay", "send")


def well_formed_windows(size, names):
    """All well formed windows: marks before, activities, marks behind."""
    found = []
    for before in range(size):
        for behind in range(size):
            for inner in itertools.product(names, repeat=max(0, size - before - behind)):
                window = ("<",) * before + inner + (">",) * behind
                if len(window) == size and window not in found:
                    found.append(window)
    return found


def some_processes(names):
    """Processes of each size that have parts of the windows, none and all included."""
    found = []
    for size in [1, 2, 3]:
        windows = well_formed_windows(size, names)
        for step in [1, 2, 3, 5]:
            for start in range(step):
                kept = [window for place, window in enumerate(windows) if place % step != start]
                found.append(Process(size, kept))
        found.append(Process(size, windows))
    return found


class WindowsOfTraces(unittest.TestCase):
    def test_size_1(self):
        self.assertEqual(windows_of(1, []), [])
        self.assertEqual(windows_of(1, ["b", "a"]), [("b",), ("a",)])
        self.assertEqual(windows_of(1, ["b", "a", "b", "b"]), [("b",), ("a",)])

    def test_size_2(self):
        self.assertEqual(windows_of(2, []), [("<", ">")])
        self.assertEqual(windows_of(2, ["a"]), [("<", "a"), ("a", ">")])
        self.assertEqual(windows_of(2, ["ask", "pay", "send"]),
                         [("<", "ask"), ("ask", "pay"), ("pay", "send"), ("send", ">")])

    def test_size_3(self):
        self.assertEqual(windows_of(3, []), [("<", "<", ">"), ("<", ">", ">")])
        self.assertEqual(windows_of(3, ["a"]),
                         [("<", "<", "a"), ("<", "a", ">"), ("a", ">", ">")])
        self.assertEqual(windows_of(3, ["a", "b"]),
                         [("<", "<", "a"), ("<", "a", "b"), ("a", "b", ">"), ("b", ">", ">")])
        self.assertEqual(windows_of(3, ["a", "b", "c"]),
                         [("<", "<", "a"), ("<", "a", "b"), ("a", "b", "c"),
                          ("b", "c", ">"), ("c", ">", ">")])

    def test_each_window_once_at_its_first_place(self):
        self.assertEqual(windows_of(2, ["a", "b", "a", "b", "b", "a"]),
                         [("<", "a"), ("a", "b"), ("b", "a"), ("b", "b"), ("a", ">")])
        self.assertEqual(windows_of(3, ["b", "a", "b", "a", "b"]),
                         [("<", "<", "b"), ("<", "b", "a"), ("b", "a", "b"), ("a", "b", "a"),
                          ("a", "b", ">"), ("b", ">", ">")])
        self.assertEqual(windows_of(1, ["a"] * 1000), [("a",)])

    def test_against_the_marked_trace(self):
        for size in [1, 2, 3]:
            for trace in traces_up_to(["b", "a"], 5):
                marked = ["<"] * (size - 1) + trace + [">"] * (size - 1)
                expected = []
                for place in range(len(marked)):
                    window = tuple(marked[place:place + size])
                    if len(window) == size and window not in expected:
                        expected.append(window)
                self.assertEqual(windows_of(size, trace), expected)

    def test_kinds_of_values(self):
        found = windows_of(2, ("a", "b"))
        self.assertEqual(found, windows_of(2, ["a", "b"]))
        self.assertIs(type(found), list)
        self.assertEqual({type(window) for window in found}, {tuple})

    def test_the_list_is_new_and_the_trace_is_not_modified(self):
        trace = ["a", "b"]
        found = windows_of(2, trace)
        found.clear()
        self.assertEqual(windows_of(2, trace), [("<", "a"), ("a", "b"), ("b", ">")])
        self.assertEqual(trace, ["a", "b"])

    def test_long_traces(self):
        self.assertEqual(len(windows_of(3, ["a", "b", "c"] * 20000)), 7)


class Attributes(unittest.TestCase):
    def test_size_and_windows_as_passed(self):
        windows = [("send", ">"), ("<", "ask"), ("ask", "send")]
        process = Process(2, windows)
        self.assertEqual(process.size, 2)
        self.assertEqual(process.windows, tuple(windows))
        self.assertIs(type(process.windows), tuple)

    def test_arguments_by_their_names(self):
        process = Process(windows=[("a",)], size=1)
        self.assertEqual((process.size, process.windows), (1, (("a",),)))

    def test_no_windows(self):
        for size in [1, 2, 3]:
            self.assertEqual(Process(size, []).windows, ())
            self.assertEqual(Process(size, ()).windows, ())

    def test_lists_in_the_place_of_tuples(self):
        process = Process(2, [["<", "a"], ("a", ">")])
        self.assertEqual(process.windows, (("<", "a"), ("a", ">")))
        self.assertEqual([type(window) for window in process.windows], [tuple, tuple])
        self.assertIs(allows(process, ["a"]), True)

    def test_changes_of_what_was_passed(self):
        windows = [["<", "a"], ["a", ">"]]
        process = Process(2, windows)
        windows[0][1] = "b"
        windows.append(["a", "a"])
        self.assertEqual(process.windows, (("<", "a"), ("a", ">")))
        self.assertIs(allows(process, ["a"]), True)
        self.assertIs(allows(process, ["a", "a"]), False)
        self.assertEqual(next_tails(process, ["a", "b"], ["<"]), [("a", ("a",))])

    def test_what_is_passed_is_not_modified(self):
        windows, names, trace, tail = [["<", "a"], ["a", ">"]], ["b", "a"], ["a", "b"], ["<"]
        process = Process(2, windows)
        allows(process, trace)
        tail_of(2, trace)
        next_tails(process, names, tail)
        can_stop(process, tail)
        self.assertEqual(windows, [["<", "a"], ["a", ">"]])
        self.assertEqual((names, trace, tail), (["b", "a"], ["a", "b"], ["<"]))
        self.assertEqual((process.size, process.windows), (2, (("<", "a"), ("a", ">"))))


class Invalid(unittest.TestCase):
    def refuse(self, size, windows):
        with self.assertRaises(InvalidProcess):
            Process(size, windows)

    def test_sizes(self):
        for size in [0, 4, 5, -1, -3, 10 ** 5000, True, False, None, "2", 2.0, (2,)]:
            self.refuse(size, [])
        self.refuse(True, [("a",)])
        self.refuse(4, [("a", "b", "c", "d")])
        self.refuse(0, [()])

    def test_the_error_is_a_case_error(self):
        with self.assertRaises(CaseError):
            Process(0, [])
        with self.assertRaises(ValueError):
            Process(1, [("a",), ("a",)])

    def test_windows_of_another_size(self):
        for size in [1, 2, 3]:
            for many in [0, 1, 2, 3, 4]:
                if many != size:
                    self.refuse(size, [("a",) * many])
                    self.refuse(size, [["a"] * many])
        self.refuse(2, [("a", "b"), ("<", ">"), ("a", "b", "a")])

    def test_too_many_marks(self):
        self.refuse(1, [("<",)])
        self.refuse(1, [(">",)])
        self.refuse(2, [("<", "<")])
        self.refuse(2, [(">", ">")])
        self.refuse(3, [("<", "<", "<")])
        self.refuse(3, [(">", ">", ">")])

    def test_marks_at_a_wrong_place(self):
        for window in [("a", "<"), (">", "a"), (">", "<")]:
            self.refuse(2, [window])
        for window in [
            ("a", "<", "b"), ("a", ">", "b"), ("a", "b", "<"), (">", "a", "b"),
            ("<", "a", "<"), (">", "a", ">"), (">", "a", "<"), ("<", ">", "<"),
            (">", "<", ">"), ("<", ">", "a"), ("a", "<", ">"), ("a", ">", "<"),
            (">", ">", "<"), (">", "<", "<"), ("<", "<", "<"), (">", "<", "a"),
        ]:
            self.refuse(3, [window])

    def test_all_windows_of_all_signs(self):
        for size in [1, 2, 3]:
            good = well_formed_windows(size, ["a", "b"])
            for window in itertools.product(["<", "a", "b", ">"], repeat=size):
                if window in good:
                    self.assertEqual(Process(size, [window]).windows, (window,))
                else:
                    self.refuse(size, [window])
        self.assertEqual([len(well_formed_windows(size, "ab")) for size in [1, 2, 3]], [2, 9, 24])

    def test_marks_on_both_sides(self):
        both = [("<", "<", ">"), ("<", ">", ">"), ("<", "a", ">")]
        self.assertEqual(Process(3, both).windows, tuple(both))
        self.assertEqual(Process(2, [("<", ">")]).windows, (("<", ">"),))

    def test_the_windows_of_traces_are_well_formed(self):
        for size in [1, 2, 3]:
            for trace in traces_up_to(["b", "a"], 4):
                windows = windows_of(size, trace)
                self.assertEqual(Process(size, windows).windows, tuple(windows))

    def test_a_window_that_occurs_twice(self):
        self.refuse(1, [("a",), ("b",), ("a",)])
        self.refuse(2, [("<", "a"), ("<", "a")])
        self.refuse(2, [("<", "a"), ["<", "a"]])
        self.refuse(2, [["<", "a"], ("a", ">"), ("<", "a")])
        self.refuse(2, [["<", "a"], ["<", "a"]])
        self.assertEqual(len(Process(2, [("a", "b"), ("b", "a")]).windows), 2)

    def test_what_is_no_sign_does_not_count_as_one(self):
        for sign in ["", "A", "pay now", "a1", "<<", "<>", "-", "\u00e9", 5, 10 ** 5000, None,
                     ["a"]]:
            self.refuse(1, [(sign,)])
            self.refuse(2, [("a", sign)])
            self.refuse(1, [("a", sign)])

    def test_activities_of_many_letters(self):
        self.assertEqual(Process(1, [("abcdefgh",), ("z",)]).windows, (("abcdefgh",), ("z",)))
        self.assertEqual(Process(1, [("abcdefghij",)]).windows, (("abcdefghij",),))

    def test_one_wrong_window_among_good_ones(self):
        for place in range(3):
            windows = [("<", "a"), ("a", ">")]
            windows.insert(place, ("a", "<"))
            self.refuse(2, windows)


class Allowing(unittest.TestCase):
    def test_the_empty_trace(self):
        self.assertIs(allows(Process(1, []), []), True)
        self.assertIs(allows(Process(2, []), []), False)
        self.assertIs(allows(Process(2, [("<", ">")]), []), True)
        self.assertIs(allows(Process(3, [("<", "<", ">")]), []), False)
        self.assertIs(allows(Process(3, [("<", ">", ">")]), []), False)
        self.assertIs(allows(Process(3, [("<", ">", ">"), ("<", "<", ">")]), []), True)

    def test_size_1(self):
        process = Process(1, [("a",), ("b",)])
        for trace in [["a"], ["b", "b"], ["b", "a", "b"]]:
            self.assertIs(allows(process, trace), True)
        self.assertIs(allows(process, ["a", "c"]), False)

    def test_size_2(self):
        process = Process(2, [("<", "ask"), ("ask", "pay"), ("pay", "ask"), ("pay", ">")])
        self.assertIs(allows(process, ["ask", "pay"]), True)
        self.assertIs(allows(process, ["ask", "pay", "ask", "pay"]), True)
        self.assertIs(allows(process, ["ask"]), False)
        self.assertIs(allows(process, ["pay"]), False)
        self.assertIs(allows(process, ["ask", "ask", "pay"]), False)

    def test_shorter_than_the_size(self):
        process = Process(3, [("<", "<", "a"), ("<", "a", ">"), ("a", ">", ">")])
        self.assertIs(allows(process, ["a"]), True)
        self.assertIs(allows(process, []), False)
        self.assertIs(allows(process, ["a", "a"]), False)

    def test_the_least_windows_allow_their_trace(self):
        for size in [1, 2, 3]:
            for trace in traces_up_to(NAMES, 4):
                windows = windows_of(size, trace)
                self.assertIs(allows(Process(size, windows), tuple(trace)), True)
                for place in range(len(windows)):
                    fewer = windows[:place] + windows[place + 1:]
                    self.assertIs(allows(Process(size, fewer), trace), False)


class Tails(unittest.TestCase):
    def test_size_1(self):
        for trace in [[], ["a"], ["a", "b"]]:
            self.assertEqual(tail_of(1, trace), ())

    def test_size_2(self):
        self.assertEqual(tail_of(2, []), ("<",))
        self.assertEqual(tail_of(2, ["a"]), ("a",))
        self.assertEqual(tail_of(2, ["a", "b"]), ("b",))

    def test_size_3(self):
        self.assertEqual(tail_of(3, []), ("<", "<"))
        self.assertEqual(tail_of(3, ["a"]), ("<", "a"))
        self.assertEqual(tail_of(3, ["a", "b"]), ("a", "b"))
        self.assertEqual(tail_of(3, ("a", "b", "c")), ("b", "c"))

    def test_tails_are_tuples(self):
        for size in [1, 2, 3]:
            self.assertIs(type(tail_of(size, ["a", "b", "c"])), tuple)


class NextTails(unittest.TestCase):
    def test_in_the_order_of_names(self):
        windows = [("a", "c"), ("<", "b"), ("<", "a"), ("a", "b"), ("a", ">"), ("<", "c")]
        process = Process(2, windows)
        self.assertEqual(next_tails(process, ("a", "b", "c"), ("<",)),
                         [("a", ("a",)), ("b", ("b",)), ("c", ("c",))])
        self.assertEqual(next_tails(process, ("c", "a", "b"), ("<",)),
                         [("c", ("c",)), ("a", ("a",)), ("b", ("b",))])
        self.assertEqual(next_tails(process, ("b", "c", "a"), ("a",)),
                         [("b", ("b",)), ("c", ("c",))])
        self.assertEqual(next_tails(process, ("a", "b", "c"), ("b",)), [])

    def test_size_1(self):
        process = Process(1, [("pay",), ("ask",)])
        self.assertEqual(next_tails(process, NAMES, ()), [("ask", ()), ("pay", ())])

    def test_size_3(self):
        process = Process(3, [("<", "<", "b"), ("<", "b", "a"), ("b", "a", "b"), ("b", "a", ">")])
        self.assertEqual(next_tails(process, ("a", "b"), ("<", "<")), [("b", ("<", "b"))])
        self.assertEqual(next_tails(process, ("a", "b"), ("<", "b")), [("a", ("b", "a"))])
        self.assertEqual(next_tails(process, ("a", "b"), ("b", "a")), [("b", ("a", "b"))])
        self.assertEqual(next_tails(process, ("a", "b"), ("a", "b")), [])

    def test_only_names(self):
        process = Process(2, [("<", "a"), ("<", "b"), ("<", ">")])
        self.assertEqual(next_tails(process, ("b",), ("<",)), [("b", ("b",))])

    def test_lists_in_the_place_of_tuples(self):
        process = Process(3, [["<", "<", "b"]])
        found = next_tails(process, ["a", "b"], ["<", "<"])
        self.assertEqual(found, [("b", ("<", "b"))])
        self.assertIs(type(found), list)
        self.assertIs(type(found[0]), tuple)
        self.assertIs(type(found[0][1]), tuple)

    def test_the_list_is_new(self):
        process = Process(2, [("<", "a")])
        next_tails(process, ["a"], ["<"]).clear()
        self.assertEqual(next_tails(process, ["a"], ["<"]), [("a", ("a",))])

    def test_next_tails_are_the_tails_of_longer_traces(self):
        for process in some_processes(["a", "b"]):
            for trace in traces_up_to(["b", "a"], 3):
                for activity, tail in next_tails(process, ["b", "a"], tail_of(process.size, trace)):
                    self.assertEqual(tail, tail_of(process.size, [*trace, activity]))


class Stopping(unittest.TestCase):
    def test_size_1_stops_everywhere(self):
        self.assertIs(can_stop(Process(1, []), ()), True)
        self.assertIs(can_stop(Process(1, [("a",)]), []), True)

    def test_size_2(self):
        process = Process(2, [("<", "a"), ("a", ">"), ("a", "b")])
        self.assertIs(can_stop(process, ("a",)), True)
        self.assertIs(can_stop(process, ["a"]), True)
        self.assertIs(can_stop(process, ("b",)), False)
        self.assertIs(can_stop(process, ("<",)), False)
        self.assertIs(can_stop(Process(2, [("<", ">")]), ("<",)), True)

    def test_size_3_needs_both_windows(self):
        self.assertIs(can_stop(Process(3, [("a", "b", ">"), ("b", ">", ">")]), ("a", "b")), True)
        self.assertIs(can_stop(Process(3, [("a", "b", ">")]), ("a", "b")), False)
        self.assertIs(can_stop(Process(3, [("b", ">", ">")]), ("a", "b")), False)
        self.assertIs(can_stop(Process(3, [("<", "<", ">"), ("<", ">", ">")]), ("<", "<")), True)
        self.assertIs(can_stop(Process(3, [("<", "<", ">")]), ("<", "<")), False)

    def test_agrees_with_allows(self):
        outcomes = set()
        for process in some_processes(["a", "b"]):
            for trace in traces_up_to(["a", "b"], 4):
                reached, tail = True, tail_of(process.size, [])
                for activity in trace:
                    steps = dict(next_tails(process, ["a", "b"], tail))
                    reached = reached and activity in steps
                    tail = steps.get(activity, tail)
                found = allows(process, trace)
                self.assertIs(found, reached and can_stop(process, tail))
                outcomes.add((process.size, found))
        self.assertEqual(len(outcomes), 6)


if __name__ == "__main__":
    unittest.main()
