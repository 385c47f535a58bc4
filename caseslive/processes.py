"""Processes, sets of windows, and the traces that they allow and reach."""

from caseslive.errors import InvalidProcess

LARGEST_SIZE = 3
START = "<"
END = ">"


def is_size(value):
    """Whether the value can be a size; True and False are not integers here."""
    if not isinstance(value, int) or isinstance(value, bool):
        return False
    return 1 <= value <= LARGEST_SIZE


def is_sign(value):
    """Whether the value is a mark or is made of the letters of activities."""
    if not isinstance(value, str):
        return False
    if value in (START, END):
        return True
    # How many letters is not checked: long activities are an error only in names.
    strange = [letter for letter in value if letter < "a" or letter > "z"]
    return value != "" and strange == []


def is_well_formed(size, window):
    """Whether the signs of the window have the marks on their sides, and not too many."""
    opening = [sign for sign in window if sign == START]
    closing = [sign for sign in window if sign == END]
    if len(opening) >= size or len(closing) >= size:
        return False
    others = [sign for sign in window if sign not in (START, END)]
    return list(window) == opening + others + closing


def check_window(size, window):
    """Raise InvalidProcess if the tuple is not a well formed window of the size."""
    signs = [sign for sign in window if is_sign(sign)]
    # The text does not show the window: Python refuses to write numbers of very many digits.
    if len(window) != size or len(signs) != size:
        raise InvalidProcess(f"a window does not have {size} signs")
    if not is_well_formed(size, window):
        raise InvalidProcess(f"marks at a wrong place, or too many: {window!r}")


class Process:
    """A set of windows of one size."""

    def __init__(self, size, windows):
        if not is_size(size):
            raise InvalidProcess(f"a size is an integer from 1 to {LARGEST_SIZE}")
        self.size = size
        self.windows = tuple([tuple(window) for window in windows])
        # A dict, because every step of a trace asks for a window.
        self._known = {}
        for window in self.windows:
            check_window(size, window)
            if window in self._known:
                raise InvalidProcess(f"a window that occurs twice: {window!r}")
            self._known[window] = True

    def has_window(self, window):
        """Whether the process has the window, a tuple."""
        return window in self._known


def neighbors(size, signs):
    """The tuples of neighboring signs, each once, as they first occur."""
    found = {}
    for first in range(len(signs) - size + 1):
        found[signs[first:first + size]] = True
    return list(found)


def windows_of(size, trace):
    """The windows of the trace, each once, in the order in which they first occur."""
    marks = size - 1
    return neighbors(size, (START,) * marks + tuple(trace) + (END,) * marks)


def windows_to(size, trace):
    """The windows that a process needs to reach the trace, each once."""
    return neighbors(size, (START,) * (size - 1) + tuple(trace))


def windows_behind(size, tail):
    """The windows that a process needs to stop where the tail is the end of a trace."""
    return neighbors(size, tuple(tail) + (END,) * (size - 1))


def has_windows(process, windows):
    """Whether the process has all of the windows."""
    for window in windows:
        if not process.has_window(window):
            return False
    return True


def allows(process, trace):
    """Whether the process allows the trace."""
    return has_windows(process, windows_of(process.size, trace))


def tail_of(size, trace):
    """The last signs of the trace, as many as its next window still contains."""
    signs = (START,) * (size - 1) + tuple(trace)
    return signs[len(signs) - (size - 1):]


def next_tails(process, names, tail):
    """Pairs of an activity by which the process can continue and the tail behind it."""
    found = []
    for activity in names:
        window = tuple(tail) + (activity,)
        if process.has_window(window):
            found.append((activity, window[1:]))
    return found


def can_stop(process, tail):
    """Whether the process can stop where the tail is the end of a trace."""
    return has_windows(process, windows_behind(process.size, tail))
