"""Answers about running traces, over all processes that fit."""

from caseslive.errors import TooManyWays
from caseslive.families import checked_family
from caseslive.masks import is_within
from caseslive.processes import tail_of, windows_behind, windows_to

MOST_WAYS = 1000


def used_with(family, used, windows):
    """The used free windows and those among the windows, or None if this leads nowhere."""
    more = family.free_among(windows)
    if more is None or not family.can_allow(used | more):
        return None
    return used | more


def first_ways(family, running):
    """A list with the way of the running trace, or an empty one if there is none."""
    size = family.setting.size
    used = used_with(family, 0, windows_to(size, running))
    if used is None:
        return []
    return [(used, tail_of(size, running), False)]


def next_ways(family, activity, way):
    """The ways to which the activities lead from a way."""
    used, tail, came = way
    found = []
    for name in family.setting.names:
        window = tail + (name,)
        after = used_with(family, used, [window])
        if after is not None:
            found.append((after, window[1:], came or name == activity))
    return found


def reached_ways(family, running, activity):
    """All ways of the running trace and the activity. Raises TooManyWays."""
    queue = first_ways(family, running)
    found = {way: True for way in queue}
    done = 0
    while done < len(queue):
        way = queue[done]
        done += 1
        for after in next_ways(family, activity, way):
            if after not in found:
                found[after] = True
                queue.append(after)
        if len(queue) > MOST_WAYS:
            raise TooManyWays(f"more than {MOST_WAYS} ways are reached")
    return queue


def used_at_ends(family, ways, flag):
    """The sets that are used by the ways that end, of those with this flag, each once."""
    found = {}
    for used, tail, came in ways:
        if came == flag:
            after = used_with(family, used, windows_behind(family.setting.size, tail))
            if after is not None:
                found[after] = True
    return list(found)


def has_part(mask, masks):
    """Whether one of the masks is within the first one."""
    return any([is_within(part, mask) for part in masks])


def answer_in(family, running, activity):
    """The answer over all processes of the family that fit. Raises TooManyWays."""
    ways = reached_ways(family, running, activity)
    coming = used_at_ends(family, ways, True)
    missing = used_at_ends(family, ways, False)
    if coming == [] and missing == []:
        return None
    # It is enough to look at the processes with just the free windows that some end used: each
    # other process that lets the trace go on has all windows of such a one, and so its ends.
    can_in_every = all([has_part(used, coming) for used in missing])
    must_in_some = any([not has_part(used, missing) for used in coming])
    return (coming != [], can_in_every, must_in_some, missing == [])


def answer(setting, traces, running, activity):
    """Whether the activity can come in some, in every, must come in some, in every process."""
    return answer_in(checked_family(setting, traces), running, activity)


def with_one_more(ends, activity):
    """The ends of traces as they are, and with the activity put in at each place, each once."""
    found = {}
    for end in ends:
        found[end] = True
        for place in range(len(end) + 1):
            found[end[:place] + (activity,) + end[place:]] = True
    return list(found)


def in_order(traces, names):
    """The traces, all different, in ascending order."""
    rows = [(len(trace), [names.index(activity) for activity in trace], trace) for trace in traces]
    return [row[2] for row in sorted(rows)]


def variants(running, late, places, names):
    """The traces that the running trace may be when late activities are put in."""
    kept = max(0, len(running) - places)
    ends = [tuple(running[kept:])]
    for activity in late:
        for _ in range(late[activity]):
            ends = with_one_more(ends, activity)
    start = list(running[:kept])
    return [start + list(end) for end in in_order(ends, names)]


def agreed(values):
    """The value that all of the values are, or None if they differ."""
    for value in values:
        if value != values[0]:
            return None
    return values[0]


def certain_answer(setting, traces, running, activity, late, places):
    """What holds of all variants: whether they can go on, and the items of their answers."""
    family = checked_family(setting, traces)
    found = [answer_in(family, trace, activity)
             for trace in variants(running, late, places, setting.names)]
    going_on = agreed([row is not None for row in found])
    if going_on is not True:
        return (going_on, None, None, None, None)
    return (True,) + tuple([agreed([row[item] for row in found]) for item in range(4)])
