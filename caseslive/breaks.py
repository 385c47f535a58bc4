"""Spots of a process and some rules, and the first break."""

from caseslive.errors import TooLarge
from caseslive.processes import can_stop, next_tails, tail_of

MOST_SPOTS = 500


def first_spot(process, rules):
    """The spot of the empty trace."""
    return (tail_of(process.size, []), (0,) * len(rules))


def next_spots(process, names, rules, spot):
    """Pairs of an activity by which the process can continue and the spot behind it."""
    tail, states = spot
    found = []
    for activity, after in next_tails(process, names, tail):
        place = names.index(activity)
        moved = [rule.moves[state][place] for rule, state in zip(rules, states)]
        found.append((activity, (after, tuple(moved))))
    return found


def earliest_traces(start, steps_from, most=None):
    """For each point that is reached from the start, in order, the earliest trace to it.

    The steps from a point are pairs of an activity and a point, in the order of the activities.
    Raises TooLarge if there are more points than the most that there may be.
    """
    found = {start: ()}
    queue = [start]
    done = 0
    # The queue takes the earliest traces first, because each is longer than the one it comes from.
    while done < len(queue):
        point = queue[done]
        done += 1
        for activity, after in steps_from(point):
            if after not in found:
                found[after] = found[point] + (activity,)
                queue.append(after)
        if most is not None and len(queue) > most:
            raise TooLarge(f"more than {most} spots are reached")
    return found


def traces_to_spots(process, names, rules, start):
    """For each spot that is reached from the start, in order, the earliest trace to it."""
    return earliest_traces(start, lambda spot: next_spots(process, names, rules, spot), MOST_SPOTS)


def all_accept(rules, states):
    """Whether each rule accepts in its state."""
    return all([rule.accepting[state] for rule, state in zip(rules, states)])


def is_completed_well(process, rules, spot):
    """Whether at the spot the process can stop and all rules accept."""
    tail, states = spot
    return can_stop(process, tail) and all_accept(rules, states)


def first_break(process, names, rules):
    """The earliest trace that the process allows and one of the rules rejects, or None."""
    # All spots come first: too many of them are an error even if an early one is a break.
    traces = traces_to_spots(process, names, rules, first_spot(process, rules))
    for spot in traces:
        tail, states = spot
        if can_stop(process, tail) and not all_accept(rules, states):
            return list(traces[spot])
    return None
