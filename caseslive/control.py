"""Nets of the reached spots, and the control that keeps cases completable."""

from caseslive.breaks import first_spot, is_completed_well, next_spots, traces_to_spots
from caseslive.errors import NotGood, NotReached


def moves_between(process, names, rules, spots):
    """For each of the spots, pairs of an activity and the number of the spot behind it."""
    numbers = {spot: number for number, spot in enumerate(spots)}
    found = []
    for spot in spots:
        steps = next_spots(process, names, rules, spot)
        found.append([(activity, numbers[after]) for activity, after in steps])
    return found


def nodes_before(moves):
    """For each node, the nodes from which a move leads to it."""
    found = [[] for _ in moves]
    for node, row in enumerate(moves):
        for _, after in row:
            found[after].append(node)
    return found


def distances(before, final, kept):
    """For each kept node, how many moves between kept nodes lead to a final one; else None."""
    found = [0 if inside and ends else None for inside, ends in zip(kept, final)]
    queue = [node for node, distance in enumerate(found) if distance == 0]
    done = 0
    while done < len(queue):
        node = queue[done]
        done += 1
        for other in before[node]:
            if kept[other] and found[other] is None:
                found[other] = found[node] + 1
                queue.append(other)
    return found


def others_stay(row, ours, ranks):
    """Whether each move by an activity of others leads to a node with a rank."""
    return all([activity in ours or ranks[after] is not None for activity, after in row])


def made_ranks(moves, final, ours):
    """The ranks of the good nodes, and None for the others."""
    before = nodes_before(moves)
    kept = [True] * len(moves)
    while True:
        ranks = distances(before, final, kept)
        # What is left out now is in no good set: it leads to no end, or others can leave by it.
        still = [rank is not None and others_stay(row, ours, ranks)
                 for rank, row in zip(ranks, moves)]
        if still == kept:
            return ranks
        kept = still


class Net:
    """The spots that a process and some rules reach, as nodes, with the moves between them."""

    def __init__(self, process, names, rules, ours):
        spots = list(traces_to_spots(process, names, rules, first_spot(process, rules)))
        self._ours = tuple(ours)
        self._moves = moves_between(process, names, rules, spots)
        self._final = [is_completed_well(process, rules, spot) for spot in spots]
        self._ranks = made_ranks(self._moves, self._final, self._ours)

    def count(self):
        """The number of nodes."""
        return len(self._moves)

    def node_of(self, trace):
        """The node of a reached trace. Raises NotReached."""
        node = 0
        for activity in trace:
            steps = dict(self._moves[node])
            if activity not in steps:
                raise NotReached("the process does not reach the trace")
            node = steps[activity]
        return node

    def moves_of(self, node):
        """Pairs of an activity and the node to which it leads, in the order of names."""
        return list(self._moves[node])

    def is_final(self, node):
        """Whether the process can stop at the node and all rules accept."""
        return self._final[node]

    def is_good(self, node):
        """Whether some controller keeps the cases of the node completable."""
        return self._ranks[node] is not None

    def allowed(self, trace):
        """Our activities that lead from the node of the trace to a good one, in order."""
        node = self.node_of(trace)
        if not self.is_good(node):
            raise NotGood("the node of the trace is not good")
        return [activity for activity, after in self._moves[node]
                if activity in self._ours and self.is_good(after)]

    def ranks(self):
        """For each node its rank, or None if it is not good."""
        return list(self._ranks)

    def first_fault(self, ranks):
        """The first node at which the given ranks do not hold, or None."""
        for node in range(self.count()):
            if not self._holds_at(node, ranks):
                return node
        return None

    def _holds_at(self, node, ranks):
        """Whether the given ranks hold at the node."""
        rank = ranks[node]
        if rank is None:
            return True
        if not others_stay(self._moves[node], self._ours, ranks):
            return False
        behind = [ranks[after] for _, after in self._moves[node]]
        return self._final[node] or any([other is not None and other < rank for other in behind])
