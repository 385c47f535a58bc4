"""Settings, and the family of processes that fit some completed traces."""

from caseslive.breaks import first_break
from caseslive.errors import InvalidSetting
from caseslive.processes import END, START, Process, is_sign, is_size, is_well_formed, windows_of
from caseslive.rules import copies_of

MOST_NAMES = 5
MOST_LETTERS = 8
MOST_RULES = 3
MOST_STATES = 6
MOST_OPTIONAL = 8


def is_row(value):
    """Whether the value is a list or a tuple."""
    return isinstance(value, (list, tuple))


def is_activity(value):
    """Whether the value is a string of 1 to 8 letters."""
    return is_sign(value) and value not in (START, END) and len(value) <= MOST_LETTERS


def check_names(names):
    """Raise InvalidSetting if the names are not 1 to 5 different activities."""
    if not is_row(names) or not 1 <= len(names) <= MOST_NAMES:
        raise InvalidSetting(f"names are 1 to {MOST_NAMES} activities")
    for name in names:
        if not is_activity(name):
            raise InvalidSetting(f"an activity has 1 to {MOST_LETTERS} letters from a to z")
    if len(set(names)) != len(names):
        raise InvalidSetting("a name occurs twice")


def is_index(value, many):
    """Whether the value is an index of so many; True and False are not integers here."""
    if not isinstance(value, int) or isinstance(value, bool):
        return False
    return 0 <= value < many


def check_rule(rule, names):
    """Raise InvalidSetting if the rule does not fit the names."""
    many = len(rule.accepting)
    if not 1 <= many <= MOST_STATES or len(rule.moves) != many:
        raise InvalidSetting(f"a rule has 1 to {MOST_STATES} states, each with its moves")
    for value in rule.accepting:
        if value is not True and value is not False:
            raise InvalidSetting("accepting has True or False for each state")
    for row in rule.moves:
        if len(row) != len(names):
            raise InvalidSetting("moves have a state for each activity")
        for state in row:
            if not is_index(state, many):
                raise InvalidSetting("moves lead to the index of a state")


def check_rules(rules, names):
    """Raise InvalidSetting if there are too many rules or one does not fit the names."""
    if len(rules) > MOST_RULES:
        raise InvalidSetting(f"there are at most {MOST_RULES} rules")
    for rule in rules:
        check_rule(rule, names)


def check_window(window, size, names):
    """Raise InvalidSetting if this is not a well formed window of the size and the names."""
    if not is_row(window) or len(window) != size or not is_well_formed(size, window):
        raise InvalidSetting("an optional window is not a well formed one of the size")
    for sign in window:
        if sign not in (START, END) and sign not in names:
            raise InvalidSetting("an optional window has an activity that names do not have")


def check_optional(optional, size, names):
    """Raise InvalidSetting if the optional windows are too many, wrong or not all different."""
    if len(optional) > MOST_OPTIONAL:
        raise InvalidSetting(f"there are at most {MOST_OPTIONAL} optional windows")
    for window in optional:
        check_window(window, size, names)
    if len({tuple(window) for window in optional}) != len(optional):
        raise InvalidSetting("an optional window occurs twice")


class Setting:
    """The names, the size, the rules and the optional windows of a family of processes."""

    def __init__(self, names, size, rules=(), optional=()):
        check_names(names)
        if not is_size(size):
            raise InvalidSetting("a size is an integer from 1 to 3")
        check_rules(rules, names)
        check_optional(optional, size, names)
        self.names = tuple(names)
        self.size = size
        self.rules = copies_of(rules)
        self.optional = tuple([tuple(window) for window in optional])


def least_process(setting, traces):
    """The process that has just the windows of the completed traces."""
    found = {}
    for trace in traces:
        for window in windows_of(setting.size, trace):
            found[window] = True
    return Process(setting.size, list(found))


def free_beside(setting, least):
    """The optional windows that the least process does not have."""
    return [window for window in setting.optional if not least.has_window(window)]


def free_windows(setting, traces):
    """The optional windows that the least process of the traces does not have."""
    return free_beside(setting, least_process(setting, traces))


def is_right_with(setting, least, windows):
    """Whether the least process with these windows is right for the rules of the setting."""
    process = Process(setting.size, least.windows + tuple(windows))
    return first_break(process, setting.names, setting.rules) is None


def fits(setting, traces, numbers):
    """Whether the least process with the free windows of these numbers fits."""
    least = least_process(setting, traces)
    free = free_beside(setting, least)
    return is_right_with(setting, least, [free[number] for number in numbers])
