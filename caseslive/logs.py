"""Logs that are edited, the verdicts on their cases, and their journals."""

from caseslive.errors import Changed, Impossible, LogFull, Refused
from caseslive.rules import copies_of, verdict
from caseslive.settings import is_index

MOST_CHANGES = 300
MOST_ACTIVITIES = 30

MOST_DIGITS = 4
FIRST_CHECKSUM = 1
MODULUS = 65521

# The words of a line behind its first one and in front of its checksum.
FORMS = {
    "begin": (),
    "put": ("number", "number", "activity"),
    "drop": ("number", "number"),
    "complete": ("number",),
    "reopen": ("number",),
    "off": ("number",),
    "on": ("number",),
}


class Log:
    """Cases with their traces, and which rules are on; it keeps a journal of its changes."""

    def __init__(self, setting):
        self._names = tuple(setting.names)
        self._rules = copies_of(setting.rules)
        self._on = [True] * len(self._rules)
        self._traces = []
        self._ended = []
        # For a case and a rule the verdict that was found last, behind the trace that it is for.
        self._found = {}
        self._work = 0
        self._lines = []
        self._checksum = FIRST_CHECKSUM

    def begin(self):
        """Begin a case, running, with an empty trace; return its number."""
        self._write("begin")
        self._traces.append(())
        self._ended.append(False)
        return len(self._traces) - 1

    def put(self, case, place, activity):
        """Put an activity into a case, before what stands at the place."""
        self._check_case(case)
        trace = self._traces[case]
        self._check_place(place, len(trace) + 1)
        if activity not in self._names:
            raise Refused("there is no such activity")
        if len(trace) >= MOST_ACTIVITIES:
            raise Refused(f"a trace in a log has at most {MOST_ACTIVITIES} activities")
        self._write(f"put {case} {place} {activity}")
        self._traces[case] = trace[:place] + (activity,) + trace[place:]

    def drop(self, case, place):
        """Drop the activity at a place of a case."""
        self._check_case(case)
        trace = self._traces[case]
        self._check_place(place, len(trace))
        self._write(f"drop {case} {place}")
        self._traces[case] = trace[:place] + trace[place + 1:]

    def complete(self, case):
        """Complete a running case."""
        if self.is_completed(case):
            raise Refused("the case is completed")
        self._write(f"complete {case}")
        self._ended[case] = True

    def reopen(self, case):
        """Reopen a completed case."""
        if not self.is_completed(case):
            raise Refused("the case is running")
        self._write(f"reopen {case}")
        self._ended[case] = False

    def switch(self, rule, on):
        """Switch a rule on or off."""
        if self.is_on(rule) == on:
            raise Refused("the rule is on or off already as told")
        word = "on" if on else "off"
        self._write(f"{word} {rule}")
        self._on[rule] = on

    def traces(self):
        """The traces of all cases."""
        return [list(trace) for trace in self._traces]

    def is_completed(self, case):
        """Whether the case is completed."""
        self._check_case(case)
        return self._ended[case]

    def completed(self):
        """The traces of the completed cases."""
        return [list(trace) for trace, ended in zip(self._traces, self._ended) if ended]

    def is_on(self, rule):
        """Whether the rule is on."""
        if not is_index(rule, len(self._rules)):
            raise Refused("there is no such rule")
        return self._on[rule]

    def verdicts(self):
        """For each case, the verdict of each rule on its trace, or None if the rule is off."""
        missing = self.stale()
        for case, rule in missing:
            trace = self._traces[case]
            self._found[(case, rule)] = (trace, verdict(self._rules[rule], self._names, trace))
            self._work += 1
        return [self._verdicts_on(case) for case in range(len(self._traces))]

    def stale(self):
        """Pairs of a case and a rule that is on whose verdict is missing or not good."""
        return [(case, rule) for case in range(len(self._traces))
                for rule in range(len(self._rules))
                if self._on[rule] and not self._is_good(case, rule)]

    @property
    def work(self):
        """How many verdicts were found."""
        return self._work

    def journal(self):
        """The journal, a line for each change."""
        return "".join(self._lines)

    def _check_case(self, case):
        """Raise Refused if there is no such case."""
        if not is_index(case, len(self._traces)):
            raise Refused("there is no such case")

    def _check_place(self, place, many):
        """Raise Refused if the place is not one of so many."""
        if not is_index(place, many):
            raise Refused("there is no such place")

    def _write(self, change):
        """Write a change that is not refused into the journal. Raises LogFull."""
        if len(self._lines) >= MOST_CHANGES:
            raise LogFull(f"a log takes at most {MOST_CHANGES} changes")
        self._checksum = checksum_after(self._checksum, change)
        self._lines.append(f"{change} {self._checksum}\n")

    def _is_good(self, case, rule):
        """Whether the verdict that was found last is for the trace that the case has now."""
        if (case, rule) not in self._found:
            return False
        trace, _ = self._found[(case, rule)]
        return trace == self._traces[case]

    def _verdicts_on(self, case):
        """The verdicts on a case, all found; None for rules that are off."""
        return [self._found[(case, rule)][1] if on else None for rule, on in enumerate(self._on)]


def checksum_after(checksum, text):
    """The checksum when it went on over the text."""
    for sign in text:
        checksum = (256 * checksum + ord(sign)) % MODULUS
    return checksum


def is_number(word):
    """Whether the word is a number as the journal writes it."""
    # Not isdigit, which takes the digits of other scripts, too.
    strange = [sign for sign in word if sign not in "0123456789"]
    if strange != [] or not 1 <= len(word) <= MOST_DIGITS:
        return False
    return word == "0" or not word.startswith("0")


def has_form(words, names):
    """Whether the words of a line, without its checksum, are those of a change."""
    if words[0] not in FORMS:
        return False
    kinds = FORMS[words[0]]
    if len(words) != len(kinds) + 1:
        return False
    return all([word in names if kind == "activity" else is_number(word)
                for kind, word in zip(kinds, words[1:])])


def checked_changes(names, text):
    """The words of each complete line, without its checksum. Raises Changed."""
    checksum = FIRST_CHECKSUM
    found = []
    for line, row in enumerate(text.split("\n")[:-1], start=1):
        change, _, told = row.rpartition(" ")
        words = change.split(" ")
        checksum = checksum_after(checksum, change)
        if not has_form(words, names) or told != str(checksum):
            raise Changed(line)
        found.append(words)
    return found


def make_change(log, words):
    """Make the change of a line. Raises Refused and LogFull."""
    word, *rest = words
    if word == "begin":
        log.begin()
    elif word == "put":
        log.put(int(rest[0]), int(rest[1]), rest[2])
    elif word == "drop":
        log.drop(int(rest[0]), int(rest[1]))
    elif word == "complete":
        log.complete(int(rest[0]))
    elif word == "reopen":
        log.reopen(int(rest[0]))
    else:
        log.switch(int(rest[0]), word == "on")


def replay(setting, text):
    """The log of a setting with the changes that the complete lines of a journal tell."""
    # All lines are checked first: one that was changed is told ahead of an impossible change.
    changes = checked_changes(setting.names, text)
    log = Log(setting)
    for line, words in enumerate(changes, start=1):
        try:
            make_change(log, words)
        except (Refused, LogFull):
            raise Impossible(line) from None
    return log
