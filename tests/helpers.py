"""What several tests need: small machines, and answers found by trying everything."""

import itertools
import random

from caseslive.processes import Process
from caseslive.rules import Rule
from caseslive.settings import Setting

FOUR = ["a", "b", "c", "d"]

# Together these traces have all windows of size 2 over FOUR but ("a", "b") and ("d", "b").
WALKS = [list("aaccbbaddcdaca"), list("bc"), list("bd"), list("cb"), list("d")]


def traces_up_to(names, length):
    """All traces up to a length, in the order of traces."""
    found = []
    for many in range(length + 1):
        found.extend(list(trace) for trace in itertools.product(names, repeat=many))
    return found


def counting(names, activity, many, around):
    """A rule that accepts all and counts an activity, around in a circle or up to a bound."""
    after = [(state + 1) % many if around else min(state + 1, many - 1) for state in range(many)]
    return Rule([True] * many,
                [[after[state] if name == activity else state for name in names]
                 for state in range(many)])


def at_most(names, activity, bound):
    """A rule that rejects traces in which the activity occurs more often than the bound."""
    rule = counting(names, activity, bound + 2, False)
    return Rule([True] * (bound + 1) + [False], rule.moves)


def rejecting(names, trace):
    """A rule that rejects this trace only."""
    sink = len(trace) + 1
    moves = [[sink] * len(names) for _ in range(sink + 1)]
    for state, activity in enumerate(trace):
        moves[state][list(names).index(activity)] = state + 1
    return Rule([True] * len(trace) + [False, True], moves)


def capped_rules():
    """Three rules; with them a process of the windows of WALKS reaches just 500 spots."""
    return [counting(FOUR, "a", 5, False), counting(FOUR, "b", 5, False),
            counting(FOUR, "c", 6, False)]


def round_rules():
    """Three rules; with them a process of all windows over FOUR reaches just 501 spots."""
    return [counting(FOUR, activity, 5, True) for activity in "abc"]


def state_by_trying(rule, names, trace):
    """The state of a rule after a trace."""
    state = 0
    for activity in trace:
        state = rule.moves[state][list(names).index(activity)]
    return state


def allows_by_trying(size, windows, trace):
    """Whether all windows of the marked trace are among the windows."""
    marked = ["<"] * (size - 1) + list(trace) + [">"] * (size - 1)
    places = range(len(marked) - size + 1)
    return all(tuple(marked[place:place + size]) in windows for place in places)


def spots_by_trying(process, names, rules):
    """The reached spots as a set, each a pair of a tail and states."""
    start = (("<",) * (process.size - 1), (0,) * len(rules))
    found, waiting = {start}, [start]
    while waiting:
        tail, states = waiting.pop()
        for place, activity in enumerate(names):
            if tail + (activity,) in process.windows:
                moved = tuple(rule.moves[state][place] for rule, state in zip(rules, states))
                spot = ((tail + (activity,))[1:], moved)
                if spot not in found:
                    found.add(spot)
                    waiting.append(spot)
    return found


def stops_by_trying(process, tail):
    """Whether the windows behind the tail are there."""
    signs = tail + (">",) * (process.size - 1)
    places = range(len(signs) - process.size + 1)
    return all(signs[place:place + process.size] in process.windows for place in places)


def is_right_by_trying(process, names, rules):
    """Whether the process stops at no spot where a rule rejects."""
    for tail, states in spots_by_trying(process, names, rules):
        rejected = [rule for rule, state in zip(rules, states) if not rule.accepting[state]]
        if rejected and stops_by_trying(process, tail):
            return False
    return True


def windows_by_trying(size, traces):
    """The windows of the traces, each once, as they first occur."""
    found = []
    for trace in traces:
        marked = ["<"] * (size - 1) + list(trace) + [">"] * (size - 1)
        for place in range(len(marked) - size + 1):
            if tuple(marked[place:place + size]) not in found:
                found.append(tuple(marked[place:place + size]))
    return found


def free_by_trying(setting, traces):
    """The optional windows that no trace has."""
    least = windows_by_trying(setting.size, traces)
    return [window for window in setting.optional if window not in least]


def subsets(many):
    """All sets of the numbers below this one, as ascending tuples."""
    found = []
    for count in range(many + 1):
        found.extend(itertools.combinations(range(many), count))
    return found


def fitting_by_trying(setting, traces):
    """A dict from the sets of free windows that can be allowed to their processes."""
    least, free = windows_by_trying(setting.size, traces), free_by_trying(setting, traces)
    found = {}
    for numbers in subsets(len(free)):
        process = Process(setting.size, least + [free[number] for number in numbers])
        if is_right_by_trying(process, setting.names, setting.rules):
            found[numbers] = process
    return found


def flags_by_trying(process, names, running, activity):
    """For the allowed traces that begin with the running one, whether the activity occurs behind.

    A set of True and False, or an empty one.
    """
    signs = ("<",) * (process.size - 1) + tuple(running)
    for place in range(len(signs) - process.size + 1):
        if signs[place:place + process.size] not in process.windows:
            return set()
    start = (signs[len(running):], False)
    seen, waiting = {start}, [start]
    while waiting:
        tail, came = waiting.pop()
        for name in names:
            after = ((tail + (name,))[1:], came or name == activity)
            if tail + (name,) in process.windows and after not in seen:
                seen.add(after)
                waiting.append(after)
    return {came for tail, came in seen if stops_by_trying(process, tail)}


def answer_by_trying(setting, traces, running, activity):
    """The answer, from all sets of free windows one after another."""
    can, must = [], []
    for process in fitting_by_trying(setting, traces).values():
        flags = flags_by_trying(process, setting.names, running, activity)
        if flags:
            can.append(True in flags)
            must.append(False not in flags)
    return (any(can), all(can), any(must), all(must)) if can else None


def some_windows(draw, size, names):
    """All well formed windows in an order of their own."""
    windows = []
    for signs in itertools.product(["<", *names, ">"], repeat=size):
        inner = [sign for sign in signs if sign not in "<>"]
        sides = [signs.count("<"), signs.count(">")]
        if list(signs) == ["<"] * sides[0] + inner + [">"] * sides[1] and max(sides) < size:
            windows.append(signs)
    draw.shuffle(windows)
    return windows


def free_process(size, names):
    """The process with all well formed windows."""
    return Process(size, some_windows(random.Random(1), size, names))


def some_process(draw, size, names, part):
    """A process that has about so much of the well formed windows, a number from 0 to 1."""
    windows = some_windows(draw, size, names)
    return Process(size, [window for window in windows if draw.random() < part])


def reaches_by_trying(process, trace):
    """Whether the process has all windows in front of the end of the marked trace."""
    signs = ("<",) * (process.size - 1) + tuple(trace)
    places = range(len(signs) - process.size + 1)
    return all(signs[place:place + process.size] in process.windows for place in places)


def tail_by_trying(size, trace):
    """The tail of the trace."""
    signs = ["<"] * (size - 1) + list(trace)
    return tuple(signs[len(signs) - size + 1:])


def some_rule(draw, names):
    """A rule that accepts in most of its states."""
    many = draw.randint(1, 4)
    accepting = [draw.random() < 0.8 for _ in range(many)]
    return Rule(accepting, [[draw.randrange(many) for _ in names] for _ in range(many)])


def some_cases(seed, many, most_optional):
    """Pairs of a setting and completed traces, always the same ones for the same numbers."""
    draw, found = random.Random(seed), []
    while len(found) < many:
        names = draw.sample(["b", "a", "c"], draw.randint(1, 3))
        size = draw.choice([1, 2, 2, 3])
        optional = some_windows(draw, size, names)[:draw.randint(0, most_optional)]
        rules = [some_rule(draw, names) for _ in range(draw.randint(0, 2))]
        traces = [[draw.choice(names) for _ in range(draw.randint(0, 4))]
                  for _ in range(draw.randint(0, 3))]
        found.append((Setting(names, size, rules, optional), traces))
    return found


def ways_by_trying(setting, traces, running, activity):
    """All ways of a running trace and an activity, with no limit, as a set."""
    fitting, free = fitting_by_trying(setting, traces), free_by_trying(setting, traces)
    least = windows_by_trying(setting.size, traces)

    def used_after(used, windows):
        if any(window not in free and window not in least for window in windows):
            return None
        more = [free.index(window) for window in windows if window in free]
        both = tuple(sorted({*used, *more}))
        return both if both in fitting else None

    signs = ("<",) * (setting.size - 1) + tuple(running)
    places = range(len(signs) - setting.size + 1)
    used = used_after((), [signs[place:place + setting.size] for place in places])
    waiting = [] if used is None else [(used, signs[len(running):], False)]
    found = set(waiting)
    while waiting:
        used, tail, came = waiting.pop()
        for name in setting.names:
            after = used_after(used, [tail + (name,)])
            way = (after, (tail + (name,))[1:], came or name == activity)
            if after is not None and way not in found:
                found.add(way)
                waiting.append(way)
    return found


def many_ways():
    """A setting and completed traces with just 1000 ways for ["a"] and "d", 1001 for [] and "d"."""
    optional = [("c", "d"), ("b", "c"), ("a", "a"), ("c", "a"), ("a", "d"), ("b", "b"), ("d", "b"),
                ("b", "a")]
    return Setting(FOUR, 2, [], optional), [["a", "c", "c"], ["a", "b", "d", "a"]]
