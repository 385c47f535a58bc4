"""Points 31 and 32: the journal of a log, and replaying it."""

import random
import unittest

from caseslive.errors import CaseError, Changed, Impossible, JournalError, LogFull, Refused
from caseslive.logs import Log, replay
from caseslive.rules import Rule
from caseslive.settings import Setting
from tests.helpers import at_most

NAMES = ["ask", "pay", "send"]


def some_setting():
    """A setting with two rules."""
    return Setting(NAMES, 2, [at_most(NAMES, "ask", 1), Rule([True], [[0, 0, 0]])])


def journal_of(changes, checksum=1):
    """The journal that has these changes as its lines, with right checksums."""
    lines = []
    for change in changes:
        for sign in change:
            checksum = (256 * checksum + ord(sign)) % 65521
        lines.append(f"{change} {checksum}\n")
    return "".join(lines)


def told_by(log):
    """What a log tells."""
    return (log.traces(), [log.is_completed(case) for case in range(len(log.traces()))],
            log.completed(), [log.is_on(0), log.is_on(1)], log.journal())


CHANGES = ["begin", "put 0 0 ask", "put 0 1 send", "put 0 1 pay", "begin", "put 1 0 pay",
           "drop 0 2", "complete 0", "off 1", "reopen 0", "complete 1", "put 1 1 send", "on 1",
           "off 0", "complete 0"]


def changed_log():
    """A log with the changes of CHANGES."""
    log = Log(some_setting())
    log.begin()
    log.put(0, 0, "ask")
    log.put(0, 1, "send")
    log.put(0, 1, "pay")
    log.begin()
    log.put(1, 0, "pay")
    log.drop(0, 2)
    log.complete(0)
    log.switch(1, False)
    log.reopen(0)
    log.complete(1)
    log.put(1, 1, "send")
    log.switch(1, True)
    log.switch(0, False)
    log.complete(0)
    return log


class Journals(unittest.TestCase):
    def test_a_line_for_each_kind_of_change(self):
        self.assertEqual(changed_log().journal(), journal_of(CHANGES))

    def test_no_change(self):
        self.assertEqual(Log(some_setting()).journal(), "")

    def test_the_checksum_of_the_first_line(self):
        # Worked out by hand: 1, then b, e, g, i, n.
        checksum = 1
        for code in [98, 101, 103, 105, 110]:
            checksum = (256 * checksum + code) % 65521
        log = Log(some_setting())
        log.begin()
        self.assertEqual(log.journal(), f"begin {checksum}\n")
        self.assertEqual(log.journal(), "begin 37378\n")

    def test_the_checksum_goes_on_from_line_to_line(self):
        log = Log(some_setting())
        checksum, journal = 1, ""
        for _ in range(3):
            log.begin()
            for code in b"begin":
                checksum = (256 * checksum + code) % 65521
            journal += f"begin {checksum}\n"
            self.assertEqual(log.journal(), journal)
        self.assertEqual(len(set(journal.split("\n"))), 4)

    def test_it_grows_by_a_line_for_each_change(self):
        log = Log(some_setting())
        for many, change in enumerate([log.begin, log.begin, log.begin], start=1):
            before = log.journal()
            change()
            self.assertTrue(log.journal().startswith(before))
            self.assertEqual(log.journal().count("\n"), many)

    def test_what_raises_is_not_in_it(self):
        log = Log(some_setting())
        log.begin()
        before = log.journal()
        for method, *arguments in [("put", 1, 0, "ask"), ("put", 0, 1, "ask"), ("put", 0, 0, "x"),
                                   ("drop", 0, 0), ("reopen", 0), ("switch", 0, True)]:
            self.assertRaises(Refused, getattr(log, method), *arguments)
            self.assertEqual(log.journal(), before)
        log.complete(0)
        self.assertEqual(log.journal(), journal_of(["begin", "complete 0"]))

    def test_300_lines(self):
        log = Log(some_setting())
        for _ in range(300):
            log.begin()
        self.assertRaises(LogFull, log.begin)
        self.assertEqual(log.journal(), journal_of(["begin"] * 300))

    def test_numbers_of_more_digits(self):
        log = Log(some_setting())
        for _ in range(150):
            log.begin()
        for place in range(12):
            log.put(149, place, "ask")
        log.drop(149, 11)
        log.complete(149)
        self.assertEqual(log.journal(), journal_of(
            ["begin"] * 150 + [f"put 149 {place} ask" for place in range(12)]
            + ["drop 149 11", "complete 149"]))

    def test_asking_does_not_write(self):
        log = changed_log()
        before = log.journal()
        log.verdicts()
        log.stale()
        log.traces()
        self.assertEqual(log.journal(), before)

    def test_it_is_a_string(self):
        self.assertIs(type(changed_log().journal()), str)


class Replaying(unittest.TestCase):
    def test_a_whole_journal(self):
        log = changed_log()
        found = replay(some_setting(), log.journal())
        self.assertIsInstance(found, Log)
        self.assertEqual(told_by(found), told_by(log))
        self.assertEqual(found.verdicts(), log.verdicts())

    def test_the_empty_text(self):
        found = replay(some_setting(), "")
        self.assertEqual(told_by(found), ([], [], [], [True, True], ""))
        self.assertEqual(found.begin(), 0)

    def test_each_number_of_lines(self):
        lines = journal_of(CHANGES).splitlines(keepends=True)
        for many in range(len(lines) + 1):
            found = replay(some_setting(), "".join(lines[:many]))
            self.assertEqual(found.journal(), "".join(lines[:many]))

    def test_cut_anywhere(self):
        text = journal_of(CHANGES)
        for length in range(len(text) + 1):
            found = replay(some_setting(), text[:length])
            self.assertEqual(found.journal(), text[:text.rfind("\n", 0, length) + 1])

    def test_what_stands_after_the_last_newline_is_ignored(self):
        text = journal_of(CHANGES[:3])
        for rest in ["begin", "x", " ", "begin 1", "put 9 9 ask 5", "\r", "\u00e9", "begin 37378",
                     journal_of(["drop 7 7"])[:-1]]:
            self.assertEqual(replay(some_setting(), text + rest).journal(), text)
            self.assertEqual(replay(some_setting(), rest).journal(), "")

    def test_it_goes_on_like_the_log(self):
        log = changed_log()
        found = replay(some_setting(), log.journal())
        for one in [log, found]:
            one.begin()
            one.put(2, 0, "send")
            one.switch(0, True)
        self.assertEqual(told_by(found), told_by(log))

    def test_verdicts_are_found_anew(self):
        log = changed_log()
        log.verdicts()
        found = replay(some_setting(), log.journal())
        self.assertEqual(found.work, 0)
        self.assertEqual(found.stale(), [(0, 1), (1, 1)])
        found.verdicts()
        self.assertEqual(found.work, 2)

    def test_a_new_log_each_time(self):
        setting, text = some_setting(), journal_of(CHANGES)
        first, second = replay(setting, text), replay(setting, text)
        first.begin()
        self.assertEqual(second.journal(), text)

    def test_300_changes(self):
        text = journal_of(["begin"] * 300)
        found = replay(some_setting(), text)
        self.assertEqual((len(found.traces()), found.journal()), (300, text))
        self.assertRaises(LogFull, found.begin)

    def test_changes_of_the_setting_that_was_passed(self):
        setting = some_setting()
        found = replay(setting, journal_of(CHANGES))
        setting.rules[1].accepting = (False,)
        setting.names = ("x",)
        self.assertEqual(found.verdicts(), [[None, "always"], [None, "always"]])

    def test_by_their_names(self):
        text = journal_of(CHANGES)
        self.assertEqual(replay(text=text, setting=some_setting()).journal(), text)

    def test_some_logs(self):
        draw = random.Random(91)
        for _ in range(40):
            log = Log(some_setting())
            for _ in range(draw.randint(0, 120)):
                case, place = draw.randint(0, 3), draw.randint(0, 3)
                call = draw.choice([
                    ("begin",), ("put", case, place, draw.choice(NAMES)), ("drop", case, place),
                    ("put", case, place, draw.choice(NAMES)), ("complete", case),
                    ("reopen", case), ("switch", draw.randint(0, 1), draw.choice([True, False]))])
                try:
                    getattr(log, call[0])(*call[1:])
                except Refused:
                    pass
            self.assertEqual(told_by(replay(some_setting(), log.journal())), told_by(log))


class ChangedLines(unittest.TestCase):
    def changed(self, text, line):
        """Check that this is the first line that is not as a journal has it."""
        for kind in [Changed, JournalError, CaseError]:
            with self.assertRaises(kind, msg=text) as caught:
                replay(some_setting(), text)
            self.assertIs(type(caught.exception), Changed)
            self.assertEqual(caught.exception.line, line)

    def check(self, change):
        """Check that a change is none of the seven forms, even with a right checksum."""
        before = ["begin", "put 0 0 ask"]
        self.changed(journal_of([change]), 1)
        self.changed(journal_of([*before, change]), 3)
        self.changed(journal_of([*before, change, "begin"]), 3)

    def test_blanks(self):
        for change in [" begin", "begin ", "  begin", " put 0 1 pay", "put  0 1 pay",
                       "put 0  1 pay", "put 0 1  pay", "put 0 1 pay ", "drop 0  0", " drop 0 0",
                       "drop 0 0 ", "complete  0", "complete 0 ", " off 0", "off  0", "on 0 ",
                       "\tbegin", "begin\t", "put\t0 1 pay", "put 0\t1 pay", "complete\t0",
                       "put 0 1 pay\r", "begin\r", "begin\x0b", "put 0\u00a01 pay"]:
            self.check(change)

    def test_blanks_around_the_checksum(self):
        for text in ["begin  37378\n", "begin 37378 \n", " begin 37378\n", "begin\t37378\n",
                     "begin 37378\r\n", "begin 37378\t\n"]:
            self.changed(text, 1)

    def test_empty_lines(self):
        self.changed("\n", 1)
        self.changed("\n\n", 1)
        self.changed("\n" + journal_of(["begin"]), 1)
        text = journal_of(["begin", "begin"])
        self.changed(text + "\n", 3)
        self.changed(text.replace("\n", "\n\n", 1), 2)
        self.changed(" \n", 1)
        self.changed(" 1\n", 1)
        self.changed("1\n", 1)

    def test_leading_zeros(self):
        for change in ["put 00 1 pay", "put 0 01 pay", "put 000 0 pay", "drop 00 0", "drop 0 00",
                       "complete 00", "complete 01", "reopen 00", "off 00", "off 01", "on 0000"]:
            self.check(change)

    def test_signs(self):
        for change in ["put +0 1 pay", "put 0 +1 pay", "put -0 1 pay", "put 0 -1 pay", "drop -1 0",
                       "drop 0 +0", "complete -1", "complete +0", "reopen +0", "off -0", "off +1",
                       "on -1"]:
            self.check(change)

    def test_more_than_4_digits(self):
        for change in ["put 10000 0 pay", "put 0 10000 pay", "drop 12345 0", "drop 0 00000",
                       "complete 99999", "reopen 10000", "off 10000", "on 123456",
                       "complete " + "1" * 5000]:
            self.check(change)

    def test_what_is_no_number(self):
        for word in ["", "x", "0x1", "1.0", "1e1", "1_0", "\u0661", "\u00b2", "\uff11", "None",
                     "zero", "1a", "a1"]:
            for change in [f"put {word} 0 pay", f"put 0 {word} pay", f"drop {word} 0",
                           f"drop 0 {word}", f"complete {word}", f"reopen {word}", f"off {word}",
                           f"on {word}"]:
                self.check(change)

    def test_activities_that_are_not_among_the_names(self):
        for word in ["other", "as", "asks", "ASK", "a", "<", ">", "0", "", "ask\u0301", "\u00e9"]:
            self.check(f"put 0 0 {word}")

    def test_words_of_other_changes(self):
        for change in ["", "start", "Begin", "BEGIN", "begins", "begi", "add 0 0 ask", "remove 0 0",
                       "finish 0", "switch 0 off", "switch 0", "number 0", "# begin"]:
            self.check(change)

    def test_too_many_and_too_few_words(self):
        for change in ["begin 0", "begin begin", "put", "put 0", "put 0 0", "put 0 0 ask ask",
                       "put 0 ask", "put 0 ask 0", "put ask 0 0", "drop", "drop 0", "drop 0 0 0",
                       "drop 0 0 ask", "complete", "complete 0 0", "complete ask", "reopen",
                       "reopen 0 0", "off", "off 0 0", "on", "on 0 0", "off ask", "on 0 off"]:
            self.check(change)

    def test_a_missing_checksum(self):
        for change in CHANGES:
            self.changed(change + "\n", 1)
            self.changed(journal_of(["begin"]) + change + "\n", 2)
            self.changed(change + " \n", 1)

    def test_a_wrong_checksum(self):
        for told in ["37377", "37379", "1", "0", "-37378", "+37378", "3737", "373780", "102899",
                     "37378.0", "37_378", "x", "37378x", "\uff13\uff17\uff13\uff17\uff18"]:
            self.changed(f"begin {told}\n", 1)

    def test_a_checksum_with_a_nought_in_front(self):
        self.changed("begin 037378\n", 1)
        self.changed("begin 0037378\n", 1)
        replay(some_setting(), "begin 37378\n")

    def test_two_checksums(self):
        self.changed("begin 37378 37378\n", 1)

    def test_a_checksum_that_does_not_go_on(self):
        # Each line has the checksum that it would have if it were the first one.
        self.changed(journal_of(["begin"]) + journal_of(["begin"]), 2)
        self.changed(journal_of(["begin"]) + journal_of(["begin"], 37378 + 1), 2)
        replay(some_setting(), journal_of(["begin"]) + journal_of(["begin"], 37378))

    def test_lines_in_another_order(self):
        lines = journal_of(["begin", "begin", "complete 0"]).splitlines(keepends=True)
        self.changed(lines[1] + lines[0] + lines[2], 1)
        self.changed(lines[0] + lines[2] + lines[1], 2)
        self.changed(lines[0] + lines[0], 2)
        self.changed(lines[1] + lines[2], 1)

    def test_any_other_sign_anywhere(self):
        text = journal_of(CHANGES)
        for place, sign in enumerate(text):
            for other in "0a \n":
                if other != sign:
                    broken = text[:place] + other + text[place + 1:]
                    if "\n" in broken[place:]:
                        self.changed(broken, text[:place].count("\n") + 1)

    def test_other_ends_of_lines(self):
        for end in ["\r", "\r\n", "\x0b", "\x0c", "\x1c", "\x85", "\u2028"]:
            text = journal_of(["begin", "begin"]).replace("\n", end)
            if end == "\r\n":
                self.changed(text, 1)
            else:
                self.assertEqual(replay(some_setting(), text).journal(), "")
                self.changed(text + "\n", 1)

    def test_the_first_such_line(self):
        lines = journal_of(CHANGES).splitlines(keepends=True)
        for first in range(len(lines)):
            broken = list(lines)
            broken[first] = broken[first].replace(" ", "  ", 1)
            self.changed("".join(broken), first + 1)
            broken[-1] = "x\n"
            self.changed("".join(broken), first + 1)

    def test_names_of_the_setting(self):
        text = journal_of(["begin", "put 0 0 ask"])
        with self.assertRaises(Changed) as caught:
            replay(Setting(["pay"], 2), text)
        self.assertEqual(caught.exception.line, 2)
        self.assertEqual(replay(Setting(["pay", "ask"], 1), text).traces(), [["ask"]])


class ImpossibleChanges(unittest.TestCase):
    def impossible(self, changes, line):
        """Check that this is the first line that tells an impossible change."""
        for kind in [Impossible, JournalError, CaseError]:
            with self.assertRaises(kind, msg=changes) as caught:
                replay(some_setting(), journal_of(changes))
            self.assertIs(type(caught.exception), Impossible)
            self.assertEqual(caught.exception.line, line)

    def test_refused_changes(self):
        for change in ["put 1 0 ask", "put 9999 0 ask", "put 0 2 ask", "put 0 9999 ask",
                       "drop 1 0", "drop 0 1", "drop 0 9999", "complete 1", "reopen 0",
                       "reopen 5", "off 2", "off 9999", "on 0", "on 1", "on 2"]:
            self.impossible(["begin", "put 0 0 ask", change], 3)
            self.impossible(["begin", "put 0 0 ask", change, "begin"], 3)

    def test_on_the_first_line(self):
        for change in ["put 0 0 ask", "drop 0 0", "complete 0", "reopen 0", "on 0", "off 2"]:
            self.impossible([change], 1)

    def test_twice(self):
        self.impossible(["begin", "complete 0", "complete 0"], 3)
        self.impossible(["begin", "complete 0", "reopen 0", "reopen 0"], 4)
        self.impossible(["off 1", "off 1"], 2)
        self.impossible(["off 1", "on 1", "on 1"], 3)

    def test_the_first_of_several(self):
        self.impossible(["begin", "drop 0 0", "complete 3"], 2)

    def test_a_trace_of_30(self):
        puts = ["put 0 0 ask"] * 30
        self.assertEqual(len(replay(some_setting(), journal_of(["begin", *puts])).traces()[0]), 30)
        self.impossible(["begin", *puts, "put 0 0 ask"], 32)

    def test_the_301st_change(self):
        self.impossible(["begin"] * 301, 301)
        self.impossible(["begin"] * 302, 301)
        self.impossible(["begin"] * 300 + ["complete 0"], 301)
        self.impossible(["begin"] * 300 + ["complete 300"], 301)

    def test_changed_comes_first(self):
        # The impossible change stands on line 1, the line that was changed behind it.
        text = journal_of(["drop 0 0", "begin", "begin"])
        for broken, line in [(text + "x\n", 4), (text.replace("begin", "beginn", 1), 2),
                             (text[:-2] + "\n", 3), (text + "\n", 4), (" " + text, 1)]:
            with self.assertRaises(Changed) as caught:
                replay(some_setting(), broken)
            self.assertEqual(caught.exception.line, line)
        many = journal_of(["begin"] * 301)
        with self.assertRaises(Changed) as caught:
            replay(some_setting(), many + "begin\n")
        self.assertEqual(caught.exception.line, 302)

    def test_what_is_not_complete_is_not_impossible(self):
        text = journal_of(["begin", "drop 0 0"])
        self.assertEqual(replay(some_setting(), text[:-1]).traces(), [[]])


if __name__ == "__main__":
    unittest.main()
