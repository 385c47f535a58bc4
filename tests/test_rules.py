"""Points 1 to 5: rules, the states and verdicts that they have on traces."""

import itertools
import unittest

from caseslive.rules import Rule, accepts, state_after, verdict
from tests.helpers import traces_up_to

NAMES = ("ask", "pay", "send")

# Accepts traces with an even number of `ask`; every verdict stays open.
EVEN_ASKS = Rule([True, False], [(1, 0, 0), (0, 1, 1)])

# `ask` goes from state 0 to state 1 and back; `pay` decides for always from the one and for
# never from the other. State 4 is never entered.
PAID = Rule(
    (False, True, True, False, True),
    ((1, 3, 0), (0, 2, 1), (2, 2, 2), (3, 3, 3), (0, 4, 2)),
)

# Five activities and six states: the trace must run through the names in their order.
FIVE = ("e", "d", "c", "b", "a")
IN_ORDER = Rule(
    (False, False, False, False, False, True),
    tuple(tuple(state + 1 if place == state else state for place in range(5))
          for state in range(5)) + ((5, 5, 5, 5, 5),),
)


def verdict_by_trying(rule, names, trace):
    """The verdict, from the traces that begin with this one; as many steps as states do."""
    results = []
    for more in traces_up_to(names, len(rule.accepting)):
        state = 0
        for activity in [*trace, *more]:
            state = rule.moves[state][list(names).index(activity)]
        results.append(rule.accepting[state])
    if all(results):
        return "always"
    if not any(results):
        return "never"
    return "yes" if results[0] else "no"


class Attributes(unittest.TestCase):
    def test_attributes_are_tuples(self):
        rule = Rule([True, False], [[1, 0], [0, 1]])
        self.assertEqual(rule.accepting, (True, False))
        self.assertEqual(rule.moves, ((1, 0), (0, 1)))
        self.assertIs(type(rule.accepting), tuple)
        self.assertIs(type(rule.moves), tuple)
        self.assertEqual([type(row) for row in rule.moves], [tuple, tuple])

    def test_arguments_by_their_names(self):
        rule = Rule(moves=((0,),), accepting=(True,))
        self.assertEqual((rule.accepting, rule.moves), ((True,), ((0,),)))

    def test_mixed_lists_and_tuples(self):
        rule = Rule((True, False), ([1, 0], (0, 1)))
        self.assertEqual((rule.accepting, rule.moves), ((True, False), ((1, 0), (0, 1))))

    def test_nothing_is_checked(self):
        rule = Rule([], [])
        self.assertEqual((rule.accepting, rule.moves), ((), ()))
        rule = Rule([1, "x", None], [[9, True], [], [-1, "y", 2]])
        self.assertEqual(rule.accepting, (1, "x", None))
        self.assertEqual(rule.moves, ((9, True), (), (-1, "y", 2)))

    def test_changes_of_what_was_passed(self):
        accepting, row, moves = [True, False], [1, 0], []
        moves.extend([row, [0, 1]])
        rule = Rule(accepting, moves)
        accepting[0] = False
        row[0] = 0
        moves.pop()
        self.assertEqual(rule.accepting, (True, False))
        self.assertEqual(rule.moves, ((1, 0), (0, 1)))
        self.assertEqual(state_after(rule, ["a", "b"], ["a"]), 1)

    def test_what_is_passed_is_not_modified(self):
        accepting, moves, names, trace = [True, False], [[1, 0], [0, 1]], ["a", "b"], ["b", "a"]
        rule = Rule(accepting, moves)
        for function in [state_after, accepts, verdict]:
            function(rule, names, trace)
        self.assertEqual(accepting, [True, False])
        self.assertEqual(moves, [[1, 0], [0, 1]])
        self.assertEqual((names, trace), (["a", "b"], ["b", "a"]))
        self.assertEqual((rule.accepting, rule.moves), ((True, False), ((1, 0), (0, 1))))


class States(unittest.TestCase):
    def test_empty_trace_is_state_0(self):
        for rule in [EVEN_ASKS, PAID]:
            self.assertEqual(state_after(rule, NAMES, []), 0)

    def test_moves_by_each_activity(self):
        self.assertEqual(state_after(EVEN_ASKS, NAMES, ["ask"]), 1)
        self.assertEqual(state_after(EVEN_ASKS, NAMES, ["ask", "pay", "ask", "ask"]), 1)
        self.assertEqual(state_after(PAID, NAMES, ["send", "ask", "send", "pay"]), 2)
        self.assertEqual(state_after(PAID, NAMES, ["send", "pay", "ask"]), 3)

    def test_one_state_one_activity(self):
        rule = Rule([False], [[0]])
        self.assertEqual(state_after(rule, ["a"], ["a"] * 5), 0)
        self.assertIs(accepts(rule, ["a"], ["a"] * 5), False)

    def test_six_states_five_activities(self):
        self.assertEqual(state_after(IN_ORDER, FIVE, list("edcb")), 4)
        self.assertEqual(state_after(IN_ORDER, FIVE, list("abcde")), 1)
        self.assertEqual(state_after(IN_ORDER, FIVE, list("aedbcbea")), 5)
        self.assertIs(accepts(IN_ORDER, FIVE, list("edcba")), True)
        self.assertIs(accepts(IN_ORDER, FIVE, list("edcb")), False)

    def test_names_in_another_order(self):
        other = ("send", "ask", "pay")
        self.assertEqual(state_after(PAID, NAMES, ["ask"]), 1)
        self.assertEqual(state_after(PAID, other, ["ask"]), 3)
        self.assertEqual(state_after(PAID, other, ["send", "ask"]), 2)
        self.assertIs(accepts(PAID, NAMES, ["ask", "pay"]), True)
        self.assertIs(accepts(PAID, other, ["pay", "ask"]), False)

    def test_accepts_gives_true_and_false(self):
        self.assertIs(accepts(EVEN_ASKS, NAMES, []), True)
        self.assertIs(accepts(EVEN_ASKS, NAMES, ["ask"]), False)
        self.assertIs(accepts(EVEN_ASKS, NAMES, ["ask", "ask"]), True)
        self.assertIs(accepts(Rule([False], [[0, 0, 0]]), NAMES, []), False)

    def test_lists_and_tuples(self):
        for names in [NAMES, list(NAMES)]:
            for trace in [["ask", "send"], ("ask", "send")]:
                self.assertEqual(state_after(PAID, names, trace), 1)
                self.assertIs(accepts(PAID, names, trace), True)
                self.assertEqual(verdict(PAID, names, trace), "yes")

    def test_long_traces(self):
        self.assertEqual(state_after(EVEN_ASKS, NAMES, ["ask"] * 20001), 1)


class Verdicts(unittest.TestCase):
    def test_all_four(self):
        self.assertEqual(verdict(PAID, NAMES, ["ask"]), "yes")
        self.assertEqual(verdict(PAID, NAMES, []), "no")
        self.assertEqual(verdict(PAID, NAMES, ["ask", "pay"]), "always")
        self.assertEqual(verdict(PAID, NAMES, ["pay"]), "never")

    def test_empty_trace(self):
        self.assertEqual(verdict(EVEN_ASKS, NAMES, []), "yes")
        self.assertEqual(verdict(IN_ORDER, FIVE, []), "no")
        self.assertEqual(verdict(Rule([True], [[0]]), ["a"], []), "always")
        self.assertEqual(verdict(Rule([False], [[0]]), ["a"], []), "never")

    def test_always_and_never_by_several_states(self):
        circle = [[1], [2], [0]]
        self.assertEqual(verdict(Rule([True] * 3, circle), ["a"], ["a"]), "always")
        self.assertEqual(verdict(Rule([False] * 3, circle), ["a"], ["a"]), "never")

    def test_one_later_trace_decides(self):
        circle = [[1], [2], [3], [4], [5], [0]]
        self.assertEqual(verdict(Rule([True] * 5 + [False], circle), ["a"], []), "yes")
        self.assertEqual(verdict(Rule([False] * 5 + [True], circle), ["a"], []), "no")

    def test_states_that_can_not_be_reached_any_more(self):
        left_behind = Rule([False, True, True], [[1, 0], [2, 1], [1, 2]])
        self.assertEqual(verdict(left_behind, ["a", "b"], ["b"]), "no")
        self.assertEqual(verdict(left_behind, ["a", "b"], ["b", "a"]), "always")
        left_behind = Rule([True, False, False], [[1, 0], [2, 1], [1, 2]])
        self.assertEqual(verdict(left_behind, ["a", "b"], ["b"]), "yes")
        self.assertEqual(verdict(left_behind, ["a", "b"], ["b", "a"]), "never")

    def test_states_that_are_never_entered(self):
        self.assertEqual(verdict(Rule([True, False], [[0], [0]]), ["a"], []), "always")
        self.assertEqual(verdict(Rule([False, True], [[0], [0]]), ["a"], []), "never")

    def test_names_in_another_order(self):
        self.assertEqual(verdict(PAID, ("pay", "ask", "send"), ["pay", "ask"]), "always")
        self.assertEqual(verdict(PAID, ("pay", "ask", "send"), ["ask"]), "never")

    def test_six_states_against_trying(self):
        for trace in [[], list("e"), list("edcb"), list("edcba"), list("ab")]:
            self.assertEqual(verdict(IN_ORDER, FIVE, trace),
                             verdict_by_trying(IN_ORDER, FIVE, trace))

    def test_all_small_rules_against_trying(self):
        names = ["x", "w"]
        rows = list(itertools.product(range(2), repeat=2))
        for accepting in itertools.product([True, False], repeat=2):
            for moves in itertools.product(rows, repeat=2):
                rule = Rule(accepting, moves)
                for trace in traces_up_to(names, 3):
                    self.assertEqual(verdict(rule, names, trace),
                                     verdict_by_trying(rule, names, trace))

    def test_rules_of_three_states_against_trying(self):
        seen = set()
        for accepting in itertools.product([True, False], repeat=3):
            for targets in itertools.product(range(3), repeat=3):
                rule = Rule(accepting, [[state] for state in targets])
                for trace in traces_up_to(["x"], 3):
                    found = verdict(rule, ["x"], trace)
                    self.assertEqual(found, verdict_by_trying(rule, ["x"], trace))
                    seen.add(found)
        self.assertEqual(seen, {"always", "never", "yes", "no"})


if __name__ == "__main__":
    unittest.main()
