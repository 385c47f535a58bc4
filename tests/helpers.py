"""What several tests need."""

import itertools


def traces_up_to(names, length):
    """All traces up to a length, in the order of traces."""
    found = []
    for many in range(length + 1):
        found.extend(list(trace) for trace in itertools.product(names, repeat=many))
    return found
