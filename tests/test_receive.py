"""Receive, from terminal to terminal, and what's awaited and isn't so."""

import unittest

from busterminal.commands import hear
from tests.bus import (ALL, OTHER, OWN, RECEIVE, SILENCE, TRANSMIT, command, data, data_row, mode, output_after, say,
                       sent, status, terminal_after, tick, word)

ASK_TWO = say(0, OWN, RECEIVE, 1, 2)
WRAP = 2**32


def at(before, gap):
    return (before + gap) % WRAP


def failed(terminal):
    return (terminal.error, terminal.errors, terminal.messages, terminal.to_send, terminal.got[1])


FAILED = (1, 1, 0, [], [])


class Receive(unittest.TestCase):
    def test_each_count(self):
        for count in range(32):
            size = 32 if count == 0 else count
            row = [700 + place for place in range(size)]
            calls = [say(0, OWN, RECEIVE, 4, count)] + data_row(row, 0)
            self.assertEqual(output_after(*calls[:-1]), SILENCE)
            self.assertEqual(output_after(*calls), sent(status()))
            terminal = terminal_after(*calls)
            self.assertEqual((terminal.got[4], terminal.messages, terminal.errors), (row, 1, 0))

    def test_each_sub(self):
        for sub in range(1, 31):
            terminal = terminal_after(say(0, OWN, RECEIVE, sub, 1), data(44, 20))
            self.assertEqual([place for place in range(32) if terminal.got[place]], [sub])

    def test_what_was_got_before_is_gone(self):
        terminal = terminal_after(ASK_TWO, *data_row([1, 2], 0), say(100, OWN, RECEIVE, 1, 1), data(3, 120))
        self.assertEqual((terminal.got[1], terminal.messages), ([3], 2))

    def test_nothing_is_awaited_behind_the_last_word(self):
        calls = (say(0, OWN, RECEIVE, 1, 1), data(3, 20), data(4, 40), tick(500))
        terminal = terminal_after(*calls)
        self.assertEqual((terminal.got[1], terminal.messages, terminal.errors, terminal.error), ([3], 1, 0, 0))

    def test_to_all_is_got_and_nothing_is_sent(self):
        calls = (say(0, ALL, RECEIVE, 1, 2), *data_row([1, 2], 0))
        self.assertEqual(output_after(*calls), SILENCE)
        terminal = terminal_after(*calls)
        self.assertEqual((terminal.got[1], terminal.messages, terminal.last_status), ([1, 2], 1, 0))

    def test_messages_are_counted_modulo_65536(self):
        terminal = terminal_after(ASK_TWO, data(1, 20))
        terminal.messages = 65535
        hear(terminal, 1, 2, True, 40)
        self.assertEqual(terminal.messages, 0)

    def test_a_data_word_may_be_any_word(self):
        terminal = terminal_after(ASK_TWO, *data_row([command(OWN, TRANSMIT, 1, 1), 65535], 0))
        self.assertEqual(terminal.got[1], [command(OWN, TRANSMIT, 1, 1), 65535])


class Times(unittest.TestCase):
    def test_gaps_of_20_to_23_follow(self):
        for first in range(20, 24):
            for second in range(20, 24):
                calls = (ASK_TWO, data(1, first), data(2, first + second))
                self.assertEqual(output_after(*calls), sent(status()))
                self.assertEqual(terminal_after(*calls).errors, 0)

    def test_other_gaps_behind_the_command_fail(self):
        for gap in (0, 1, 18, 19, 24, 25, 57, 58, 1000, 2**31, WRAP - 1):
            terminal = terminal_after(ASK_TWO, data(1, gap), data(2, at(gap, 20)))
            self.assertEqual(failed(terminal), FAILED)

    def test_other_gaps_behind_a_data_word_fail(self):
        for gap in (0, 1, 18, 19, 24, 25, 57, 58, 1000, 2**31, WRAP - 40):
            terminal = terminal_after(ASK_TWO, data(1, 20), data(2, at(20, gap)), data(3, at(40, gap)))
            self.assertEqual(failed(terminal), FAILED)

    def test_times_wrap(self):
        for start in (WRAP - 1, WRAP - 19, WRAP - 20, WRAP - 23, WRAP - 39, WRAP - 45):
            calls = (say(start, OWN, RECEIVE, 1, 2), data(1, at(start, 23)), data(2, at(start, 43)))
            self.assertEqual(output_after(*calls), sent(status()))
            for gap in (19, 24):
                self.assertEqual(failed(terminal_after(calls[0], data(1, at(start, gap)))), FAILED)
                self.assertEqual(failed(terminal_after(*calls[:2], data(1, at(start, 23 + gap)))), FAILED)

    def test_a_tick_sees_the_silence_from_24_on(self):
        for now in (0, 19, 20, 23):
            terminal = terminal_after(ASK_TWO, tick(now))
            self.assertEqual((terminal.error, terminal.errors), (0, 0))
        for now in (24, 25, 57, 58, 5000, WRAP - 1):
            self.assertEqual(failed(terminal_after(ASK_TWO, tick(now))), FAILED)

    def test_a_tick_is_behind_the_last_word(self):
        self.assertEqual(terminal_after(ASK_TWO, data(1, 22), tick(45)).errors, 0)
        self.assertEqual(failed(terminal_after(ASK_TWO, data(1, 22), tick(46))), FAILED)

    def test_a_tick_wraps(self):
        asked = say(WRAP - 10, OWN, RECEIVE, 1, 1)
        self.assertEqual(terminal_after(asked, tick(13)).errors, 0)
        self.assertEqual(failed(terminal_after(asked, tick(14))), FAILED)

    def test_a_tick_in_time_does_not_stop_the_command(self):
        self.assertEqual(output_after(ASK_TWO, tick(23), data(1, 23), tick(24), data(2, 43)), sent(status()))

    def test_the_silence_is_counted_once(self):
        terminal = terminal_after(ASK_TWO, tick(24), tick(100), data(1, 200), tick(300))
        self.assertEqual(failed(terminal), FAILED)

    def test_a_tick_ends_the_command(self):
        # The times come round again: behind the tick the word would be in time.
        self.assertEqual(output_after(say(0, OWN, RECEIVE, 1, 1), tick(24), data(1, 20)), SILENCE)

    def test_the_silence_is_seen_by_a_command(self):
        calls = (ASK_TWO, say(24, OWN, TRANSMIT, 1, 1))
        self.assertEqual(output_after(*calls), sent(status(), 0))
        self.assertEqual(terminal_after(*calls).errors, 1)

    def test_the_silence_shows_in_the_status_of_mode_code_18(self):
        asked = command(OWN, RECEIVE, 1, 2)
        self.assertEqual(output_after(ASK_TWO, mode(24, 18)), sent(status(error=1), asked))
        self.assertEqual(output_after(ASK_TWO, mode(23, 18)), sent(status(), asked))

    def test_the_silence_is_seen_by_a_word_to_another_terminal(self):
        self.assertEqual(failed(terminal_after(ASK_TWO, say(24, OTHER, TRANSMIT, 1, 1), word(0, OTHER << 11, 50))),
                         FAILED)


class NotSo(unittest.TestCase):
    def test_a_word_that_is_not_good(self):
        self.assertEqual(failed(terminal_after(ASK_TWO, data(1, 20, good=0), data(2, 40))), FAILED)
        self.assertEqual(failed(terminal_after(ASK_TWO, data(1, 20), data(2, 40, good=0), data(3, 60))), FAILED)

    def test_a_command_that_is_not_good(self):
        for value in (command(OWN, TRANSMIT, 1, 1), command(OTHER, TRANSMIT, 1, 1)):
            calls = (ASK_TWO, word(0, value, 20, good=0))
            self.assertEqual(failed(terminal_after(*calls)), FAILED)

    def test_another_sync(self):
        for value in (command(OTHER, RECEIVE, 1, 1), OTHER << 11):
            self.assertEqual(failed(terminal_after(ASK_TWO, word(0, value, 20), data(1, 40), data(2, 60))), FAILED)

    def test_a_senders_command_behind_a_data_word(self):
        calls = (ASK_TWO, data(1, 20), say(40, OTHER, TRANSMIT, 1, 1), word(0, OTHER << 11, 60), *data_row([2, 3], 60))
        self.assertEqual(failed(terminal_after(*calls)), FAILED)

    def test_each_failure_is_counted(self):
        calls = []
        for turn in range(5):
            calls += [say(turn * 100, OWN, RECEIVE, 1, 1), data(1, turn * 100 + 19)]
        self.assertEqual(terminal_after(*calls).errors, 5)

    def test_errors_are_counted_modulo_65536(self):
        terminal = terminal_after(ASK_TWO)
        terminal.errors = 65535
        hear(terminal, 1, 1, False, 20)
        self.assertEqual(terminal.errors, 0)

    def test_what_was_got_before_stays(self):
        terminal = terminal_after(say(0, OWN, RECEIVE, 1, 1), data(7, 20), say(100, OWN, RECEIVE, 1, 1),
                                  data(8, 120, good=0))
        self.assertEqual((terminal.got[1], terminal.messages, terminal.errors), ([7], 1, 1))

    def test_to_all_fails_alike(self):
        terminal = terminal_after(say(0, ALL, RECEIVE, 1, 1), data(7, 19))
        self.assertEqual(failed(terminal), FAILED)
        self.assertEqual(terminal.to_all, 1)

    def test_a_failure_shows_in_the_status_of_mode_code_18(self):
        told = output_after(ASK_TWO, data(1, 20), data(2, 40, good=0), mode(500, 18))
        self.assertEqual(told, sent(status(error=1), command(OWN, RECEIVE, 1, 2)))


class FromTerminalToTerminal(unittest.TestCase):
    def calls(self, first=20, second=30, third=20, asked=OWN, sender=OTHER):
        start = WRAP - 25
        return (say(start, asked, RECEIVE, 1, 2), say(at(start, first), sender, TRANSMIT, 3, 2),
                word(0, sender << 11, at(start, first + second)), data(7, at(start, first + second + third)),
                data(8, at(start, first + second + third + 20)))

    def test_the_data_is_got(self):
        self.assertEqual(output_after(*self.calls()), sent(status()))
        self.assertEqual(output_after(*self.calls()[:-1]), SILENCE)
        terminal = terminal_after(*self.calls())
        self.assertEqual((terminal.got[1], terminal.messages, terminal.errors), ([7, 8], 1, 0))

    def test_each_count(self):
        for count in range(32):
            row = [700 + place for place in range(32 if count == 0 else count)]
            calls = (say(0, OWN, RECEIVE, 1, count), say(20, OTHER, TRANSMIT, 3, count), word(0, OTHER << 11, 40),
                     *data_row(row, 40))
            self.assertEqual(output_after(*calls), sent(status()))
            self.assertEqual(terminal_after(*calls).got[1], row)

    def test_to_all_the_data_is_got_and_nothing_is_sent(self):
        terminal = terminal_after(*self.calls(asked=ALL))
        self.assertEqual((terminal.got[1], terminal.messages, terminal.to_send), ([7, 8], 1, []))

    def test_each_other_terminal_may_send(self):
        for sender in range(31):
            if sender != OWN:
                self.assertEqual(terminal_after(*self.calls(sender=sender)).got[1], [7, 8])

    def test_a_senders_command_of_mode_is_one_too(self):
        calls = (ASK_TWO, say(20, OTHER, TRANSMIT, 0, 2), word(0, OTHER << 11, 40), *data_row([7, 8], 40))
        self.assertEqual(terminal_after(*calls).got[1], [7, 8])

    def test_the_senders_command_follows(self):
        for first in (20, 21, 22, 23):
            self.assertEqual(output_after(*self.calls(first=first)), sent(status()))
        for first in (0, 19, 24, 57):
            self.assertEqual(failed(terminal_after(*self.calls(first=first))), FAILED)

    def test_the_senders_status_is_20_to_57_behind(self):
        for second in (20, 21, 23, 24, 56, 57):
            self.assertEqual(output_after(*self.calls(second=second)), sent(status()))
        for second in (0, 19, 58, 59, 1000):
            self.assertEqual(failed(terminal_after(*self.calls(second=second))), FAILED)

    def test_the_data_follows_the_senders_status(self):
        for third in (20, 21, 22, 23):
            self.assertEqual(output_after(*self.calls(third=third)), sent(status()))
        for third in (0, 19, 24, 57):
            self.assertEqual(failed(terminal_after(*self.calls(third=third))), FAILED)

    def test_a_tick_sees_the_silence_from_58_on(self):
        calls = (ASK_TWO, say(20, OTHER, TRANSMIT, 3, 2))
        for now in (43, 44, 77):
            self.assertEqual(terminal_after(*calls, tick(now)).errors, 0)
        self.assertEqual(failed(terminal_after(*calls, tick(78))), FAILED)

    def test_behind_the_senders_status_a_tick_sees_it_from_24_on(self):
        calls = (ASK_TWO, say(20, OTHER, TRANSMIT, 3, 2), word(0, OTHER << 11, 50))
        self.assertEqual(terminal_after(*calls, tick(73)).errors, 0)
        self.assertEqual(failed(terminal_after(*calls, tick(74))), FAILED)

    def test_a_senders_command_that_is_none(self):
        for wrong in (say(20, OTHER, RECEIVE, 3, 2), word(0, command(OTHER, TRANSMIT, 3, 2), 20, good=0)):
            terminal = terminal_after(ASK_TWO, wrong, word(0, OTHER << 11, 50), *data_row([7, 8], 50))
            self.assertEqual(failed(terminal), FAILED)

    def test_a_senders_status_that_is_none(self):
        calls = (ASK_TWO, say(20, OTHER, TRANSMIT, 3, 2))
        for wrong in (word(0, (OTHER + 1) << 11, 50), word(0, OTHER << 11, 50, good=0), data(OTHER << 11, 50)):
            self.assertEqual(failed(terminal_after(*calls, wrong, *data_row([7, 8], 50))), FAILED)
            late_right = word(0, OTHER << 11, 70)
            self.assertEqual(failed(terminal_after(*calls, wrong, late_right, *data_row([7, 8], 70))), FAILED)

    def test_a_senders_status_may_have_its_other_bits_set(self):
        calls = (ASK_TWO, say(20, OTHER, TRANSMIT, 3, 2), word(0, OTHER << 11 | 2047, 50), *data_row([7, 8], 50))
        self.assertEqual(terminal_after(*calls).got[1], [7, 8])

    def test_no_second_senders_command(self):
        calls = (ASK_TWO, say(20, OTHER, TRANSMIT, 3, 2), word(0, OTHER << 11, 40), say(60, OTHER, TRANSMIT, 3, 2))
        self.assertEqual(failed(terminal_after(*calls)), FAILED)

    def test_a_transmit_command_to_this_terminal_begins_a_command(self):
        calls = (say(0, ALL, RECEIVE, 1, 1), say(20, OWN, TRANSMIT, 3, 1))
        self.assertEqual(output_after(*calls), sent(status(), 0))
        self.assertEqual(terminal_after(*calls).errors, 0)

    def test_a_transmit_command_to_all_begins_a_command(self):
        terminal = terminal_after(ASK_TWO, say(20, ALL, TRANSMIT, 3, 2), tick(500))
        self.assertEqual((terminal.error, terminal.errors, terminal.to_all), (1, 1, 1))

    def test_a_mode_command_has_no_sender(self):
        terminal = terminal_after(mode(0, 17, transmit=0), say(20, OTHER, TRANSMIT, 3, 1), word(0, OTHER << 11, 50),
                                  data(7, 70))
        self.assertEqual((failed(terminal), terminal.step), (FAILED, 0))


class FlagsAndAllowed(unittest.TestCase):
    """What no call can set yet is set on the terminal itself."""

    def ended(self, asked, flags=0, forbidden=None):
        terminal = terminal_after(asked)
        terminal.flags = flags
        if forbidden is not None:
            terminal.allowed[forbidden][1] = 0xFFFFFFFF ^ 1 << 1
        hear(terminal, 1, 7, True, 20)
        return terminal

    def test_busy_is_told_and_nothing_is_got(self):
        terminal = self.ended(say(0, OWN, RECEIVE, 1, 1), flags=1)
        self.assertEqual((terminal.got[1], terminal.messages, terminal.errors), ([], 0, 0))
        self.assertEqual(terminal.last_status, status() + 8)

    def test_not_allowed_is_an_error_that_is_not_counted(self):
        terminal = self.ended(say(0, OWN, RECEIVE, 1, 1), forbidden=0)
        self.assertEqual((terminal.got[1], terminal.messages, terminal.errors), ([], 0, 0))
        self.assertEqual(terminal.last_status, status(error=1))

    def test_to_all_has_its_own_allowance(self):
        terminal = self.ended(say(0, ALL, RECEIVE, 1, 1), forbidden=2)
        self.assertEqual((terminal.got[1], terminal.messages, terminal.error, terminal.to_send), ([], 0, 1, []))
        self.assertEqual(self.ended(say(0, ALL, RECEIVE, 1, 1), forbidden=0).got[1], [7])
        self.assertEqual(self.ended(say(0, OWN, RECEIVE, 1, 1), forbidden=2).got[1], [7])


if __name__ == "__main__":
    unittest.main()
