"""Rules, machines that accept or reject traces, and their verdicts."""


class Rule:
    """A machine with some states; it checks nothing."""

    def __init__(self, accepting, moves):
        self.accepting = tuple(accepting)
        self.moves = tuple([tuple(row) for row in moves])


def copies_of(rules):
    """Copies of the rules, because attributes of a rule that was passed can be assigned later."""
    return tuple([Rule(rule.accepting, rule.moves) for rule in rules])


def state_after(rule, names, trace):
    """The state of the rule after the trace."""
    state = 0
    for activity in trace:
        state = rule.moves[state][names.index(activity)]
    return state


def accepts(rule, names, trace):
    """Whether the rule accepts the trace."""
    return rule.accepting[state_after(rule, names, trace)]


def states_from(rule, start):
    """The states that the rule can come to from a state, this one included."""
    found = [start]
    done = 0
    while done < len(found):
        row = rule.moves[found[done]]
        for state in row:
            if state not in found:
                found.append(state)
        done += 1
    return found


def verdict(rule, names, trace):
    """What the rule says of the trace: always, never, yes or no."""
    state = state_after(rule, names, trace)
    later = [rule.accepting[other] for other in states_from(rule, state)]
    if all(later):
        return "always"
    if not any(later):
        return "never"
    if rule.accepting[state]:
        return "yes"
    return "no"
