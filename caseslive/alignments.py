"""Alignments of traces with a process at the least cost, and the prices that prove them."""

from heapq import heapify, heappop, heappush

from caseslive.breaks import earliest_traces
from caseslive.processes import can_stop, next_tails, tail_of


def tails_of(process, names):
    """The tails of the traces that the process reaches, in the order of the earliest of these."""
    start = tail_of(process.size, [])
    return list(earliest_traces(start, lambda tail: next_tails(process, names, tail)))


class TailMap:
    """The tails of a process by their indexes, with what leads from one to another."""

    def __init__(self, process, names):
        tails = tails_of(process, names)
        indexes = {tail: index for index, tail in enumerate(tails)}
        self.stops = [can_stop(process, tail) for tail in tails]
        self.steps = []
        self.steps_back = [[] for _ in tails]
        for index, tail in enumerate(tails):
            steps = {}
            for activity, after in next_tails(process, names, tail):
                steps[activity] = indexes[after]
                self.steps_back[indexes[after]].append((activity, index))
            self.steps.append(steps)


def cost_and(cost, price):
    """The cost together with a price that may be None."""
    if price is None:
        return None
    return cost + price


def is_at_most(price, bound):
    """Whether the price is not above the bound; None is above all numbers."""
    if bound is None:
        return True
    return price is not None and price <= bound


def with_inserting(tail_map, inserting, without):
    """The prices of a place, from those that the tails have if nothing is inserted there first."""
    found = list(without)
    queue = [(price, tail) for tail, price in enumerate(without) if price is not None]
    heapify(queue)
    while queue:
        price, tail = heappop(queue)
        # An older, higher price of the same tail may still be in the queue.
        if price == found[tail]:
            for activity, before in tail_map.steps_back[tail]:
                higher = price + inserting[activity]
                if not is_at_most(found[before], higher):
                    found[before] = higher
                    heappush(queue, (higher, before))
    return found


def without_inserting(tail_map, activity, cost, behind):
    """For each tail, the least price if the next activity is left or taken at once."""
    found = []
    for steps, price in zip(tail_map.steps, behind):
        best = cost_and(cost, price)
        if activity in steps and is_at_most(behind[steps[activity]], best):
            best = behind[steps[activity]]
        found.append(best)
    return found


def prices_in(tail_map, trace, costs):
    """The prices, a list for each place."""
    leaving, inserting = costs
    ends = [0 if stops else None for stops in tail_map.stops]
    found = [with_inserting(tail_map, inserting, ends)]
    for activity in reversed(trace):
        row = without_inserting(tail_map, activity, leaving[activity], found[-1])
        found.append(with_inserting(tail_map, inserting, row))
    return found[::-1]


def prices(process, names, trace, costs):
    """For each place and each tail, the least cost from there on, or None if there is no way."""
    return prices_in(TailMap(process, names), trace, costs)


def moves_from(tail_map, trace, costs, place, tail):
    """The moves from a place and a tail, each with its cost and the place and the tail behind it.

    They stand in the order in which they are tried.
    """
    leaving, inserting = costs
    steps = tail_map.steps[tail]
    found = []
    if place < len(trace):
        activity = trace[place]
        found.append((("leave", activity), leaving[activity], place + 1, tail))
        if activity in steps:
            found.append((("take", activity), 0, place + 1, steps[activity]))
    for activity, after in steps.items():
        found.append((("insert", activity), inserting[activity], place, after))
    return found


def price_by(given, step):
    """The cost of a move together with the given price behind it."""
    _, cost, place, tail = step
    return cost_and(cost, given[place][tail])


def align(process, names, trace, costs):
    """The least cost and an alignment of this cost, or None if there is no alignment."""
    tail_map = TailMap(process, names)
    found = prices_in(tail_map, trace, costs)
    if found[0][0] is None:
        return None
    moves = []
    place, tail = 0, 0
    while place < len(trace) or not tail_map.stops[tail]:
        price = found[place][tail]
        steps = moves_from(tail_map, trace, costs, place, tail)
        move, _, place, tail = [step for step in steps if price_by(found, step) == price][0]
        moves.append(move)
    return (found[0][0], moves)


def holds_at(tail_map, trace, costs, given, place, tail):
    """Whether the given prices hold at a place and a tail."""
    price = given[place][tail]
    if place == len(trace) and tail_map.stops[tail] and price != 0:
        return False
    steps = moves_from(tail_map, trace, costs, place, tail)
    return all([is_at_most(price, price_by(given, step)) for step in steps])


def first_fault(process, names, trace, costs, given):
    """The first place and, there, the first index of a tail where given prices do not hold."""
    tail_map = TailMap(process, names)
    for place in range(len(trace) + 1):
        for tail in range(len(tail_map.stops)):
            if not holds_at(tail_map, trace, costs, given, place, tail):
                return (place, tail)
    return None
