"""Spots of a process and some rules, and the first break."""

from caseslive.errors import TooLarge
from caseslive.processes import can_stop, next_tails, tail_of

MOST_SPOTS = 500


def next_spots(process, names, rules, spot):
    """Pairs of an activity by which the process can continue and the spot behind it."""
    tail, states = spot
    found = []
    for activity, after in next_tails(process, names, tail):
        place = names.index(activity)
        moved = [rule.moves[state][place] for rule, state in zip(rules, states)]
        found.append((activity, (after, tuple(moved))))
    return found


def traces_to_spots(process, names, rules, start):
    """For each spot that is reached from the start, in order, the earliest trace to it."""
    found = {start: ()}
    queue = [start]
    done = 0
    # The queue takes the earliest traces first, because each is longer than the one it comes from.
    while done < len(queue):
        spot = queue[done]
        done += 1
        for activity, after in next_spots(process, names, rules, spot):
            if after not in found:
                found[after] = found[spot] + (activity,)
                queue.append(after)
        if len(queue) > MOST_SPOTS:
            raise TooLarge(f"more than {MOST_SPOTS} spots are reached")
    return found


def all_accept(rules, states):
    """Whether each rule accepts in its state."""
    return all([rule.accepting[state] for rule, state in zip(rules, states)])


def first_break(process, names, rules):
    """The earliest trace that the process allows and one of the rules rejects, or None."""
    start = (tail_of(process.size, []), (0,) * len(rules))
    # All spots come first: too many of them are an error even if an early one is a break.
    traces = traces_to_spots(process, names, rules, start)
    for spot in traces:
        tail, states = spot
        if can_stop(process, tail) and not all_accept(rules, states):
            return list(traces[spot])
    return None
