"""The errors that the package raises."""


class CaseError(ValueError):
    """The base class of all errors that the package raises."""


class InvalidProcess(CaseError):
    """A process has a wrong size or a wrong window."""


class InvalidSetting(CaseError):
    """A setting has wrong names, a wrong size, a wrong rule or a wrong optional window."""


class TooLarge(CaseError):
    """A process and some rules reach too many spots."""


class TooManyWays(CaseError):
    """A running trace and an activity have too many ways."""


class TooManyTraces(CaseError):
    """There are too many traces to look for those to set aside."""


class NotReached(CaseError):
    """A process does not reach a trace."""


class NotGood(CaseError):
    """The node of a trace is not good."""


class Refused(CaseError):
    """A log does not take a change, or is asked for what it does not have."""


class LogFull(CaseError):
    """A log took as many changes as it can."""


class JournalError(CaseError):
    """A line of a journal cannot be replayed."""

    def __init__(self, line):
        super().__init__(f"line {line}")
        self.line = line


class Changed(JournalError):
    """A line of a journal is not as the journal wrote it."""


class Impossible(JournalError):
    """A line of a journal tells a change that the log does not take."""
