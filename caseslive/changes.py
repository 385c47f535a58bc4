"""Moving cases to another process, and the first difference of two processes."""

from caseslive.breaks import earliest_traces, is_completed_well, traces_to_spots
from caseslive.processes import can_stop, next_tails, tail_of
from caseslive.rules import state_after


def can_move(process, names, rules, trace):
    """Whether a case can go on in the process after the trace, to an end that the rules accept."""
    states = tuple([state_after(rule, names, trace) for rule in rules])
    # All spots come first: too many of them are an error even if an early one is an end.
    spots = traces_to_spots(process, names, rules, (tail_of(process.size, trace), states))
    return any([is_completed_well(process, rules, spot) for spot in spots])


def next_pairs(first, second, names, tails):
    """Pairs of an activity by which the first process can continue and the tails behind it.

    The second tail is None where the second process cannot continue, and then for ever.
    """
    tail, other = tails
    others = {}
    if other is not None:
        others = dict(next_tails(second, names, other))
    return [(activity, (after, others.get(activity)))
            for activity, after in next_tails(first, names, tail)]


def first_difference(first, second, names):
    """The earliest trace that the first process allows and the second one does not, or None."""
    start = (tail_of(first.size, []), tail_of(second.size, []))
    traces = earliest_traces(start, lambda tails: next_pairs(first, second, names, tails))
    for tail, other in traces:
        if can_stop(first, tail) and (other is None or not can_stop(second, other)):
            return list(traces[(tail, other)])
    return None
