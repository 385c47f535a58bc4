"""Which free windows can be allowed together, and what to set aside if nothing fits."""

from caseslive.breaks import first_break
from caseslive.errors import TooManyTraces
from caseslive.families import checked_family
from caseslive.masks import as_tuples, greatest_of, has_number, least_of
from caseslive.settings import fits

MOST_TRACES = 6


def greatest_sets(setting, traces):
    """The sets of free windows that can be allowed and are part of no other such set."""
    family = checked_family(setting, traces)
    return as_tuples(greatest_of([mask for mask in family.masks() if family.can_allow(mask)]))


def refused_sets(setting, traces):
    """The sets of free windows that cannot be allowed though each proper subset can."""
    family = checked_family(setting, traces)
    return as_tuples(least_of([mask for mask in family.masks() if not family.can_allow(mask)]))


def fits_without(setting, traces, mask):
    """Whether the least process of the other traces is right, without those of the set."""
    others = [trace for index, trace in enumerate(traces) if not has_number(mask, index)]
    return fits(setting, others, [])


def traces_aside(setting, traces):
    """The least sets of completed traces without which the least process is right."""
    # TooLarge comes before TooManyTraces.
    checked_family(setting, traces)
    if len(traces) > MOST_TRACES:
        raise TooManyTraces(f"there are more than {MOST_TRACES} traces")
    masks = range(1 << len(traces))
    return as_tuples(least_of([mask for mask in masks if fits_without(setting, traces, mask)]))


def rules_aside(setting, traces):
    """The least set of rules without which the least process is right, alone in a list."""
    least = checked_family(setting, traces).least
    # A process is right for some rules if and only if it is right for each of them.
    broken = []
    for index, rule in enumerate(setting.rules):
        if first_break(least, setting.names, [rule]) is not None:
            broken.append(index)
    return [tuple(broken)]
