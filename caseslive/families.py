"""The processes of a setting and some completed traces, with what was found out about them."""

from caseslive.masks import has_number
from caseslive.settings import free_beside, is_right_with, least_process


class Family:
    """The least process and its free windows; sets of free windows are masks of their numbers."""

    def __init__(self, setting, traces):
        self.setting = setting
        self.least = least_process(setting, traces)
        self.free = free_beside(setting, self.least)
        self._bits = {window: 1 << number for number, window in enumerate(self.free)}
        self._found = {}

    def masks(self):
        """All sets of free windows; the last one has all of them."""
        return list(range(1 << len(self.free)))

    def can_allow(self, mask):
        """Whether the least process with the free windows of the set fits. Raises TooLarge."""
        # Many ways use the same free windows, and looking for a break is slow.
        if mask not in self._found:
            chosen = [window for number, window in enumerate(self.free) if has_number(mask, number)]
            self._found[mask] = is_right_with(self.setting, self.least, chosen)
        return self._found[mask]

    def free_among(self, windows):
        """The set of the free windows among these, or None if one of them cannot be had."""
        mask = 0
        for window in windows:
            if window in self._bits:
                mask = mask | self._bits[window]
            elif not self.least.has_window(window):
                return None
        return mask


def checked_family(setting, traces):
    """The family; raises TooLarge if its process with all free windows is too large."""
    family = Family(setting, traces)
    family.can_allow(family.masks()[-1])
    return family
