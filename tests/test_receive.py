"""Receive, from terminal to terminal, and what's awaited and isn't so."""

import unittest

from busterminal.state import Terminal
from busterminal.terminal import answer
from tests.bus import (ALL, BUSY, OTHER, OWN, RECEIVE, SILENCE, TO_RECEIVE, TO_RECEIVE_TO_ALL, TO_TRANSMIT, TRANSMIT,
                       allow, command, data, data_row, flags, forbid, mode, output, output_after, say, seen_after,
                       sent, status, tick, told, word)

ASK_TWO = say(0, OWN, RECEIVE, 1, 2)
WRAP = 2**32


def at(before, gap):
    return (before + gap) % WRAP


def failed(seen):
    return (seen.error, seen.errors, seen.messages, seen.to_send, seen.got[1])


FAILED = (1, 1, 0, [], [])


class Receive(unittest.TestCase):
    def test_each_count(self):
        for count in range(32):
            size = 32 if count == 0 else count
            row = [700 + place for place in range(size)]
            calls = [say(0, OWN, RECEIVE, 4, count)] + data_row(row, 0)
            self.assertEqual(output_after(*calls[:-1]), SILENCE)
            self.assertEqual(output_after(*calls), sent(status()))
            seen = seen_after(*calls)
            self.assertEqual((seen.got[4], seen.messages, seen.errors), (row, 1, 0))

    def test_each_sub(self):
        for sub in range(1, 31):
            seen = seen_after(say(0, OWN, RECEIVE, sub, 1), data(44, 20))
            self.assertEqual([place for place in range(32) if seen.got[place]], [sub])

    def test_what_was_got_before_is_gone(self):
        seen = seen_after(ASK_TWO, *data_row([1, 2], 0), say(100, OWN, RECEIVE, 1, 1), data(3, 120))
        self.assertEqual((seen.got[1], seen.messages), ([3], 2))

    def test_nothing_is_awaited_behind_the_last_word(self):
        calls = (say(0, OWN, RECEIVE, 1, 1), data(3, 20), data(4, 40), tick(500))
        seen = seen_after(*calls)
        self.assertEqual((seen.got[1], seen.messages, seen.errors, seen.error), ([3], 1, 0, 0))

    def test_to_all_is_got_and_nothing_is_sent(self):
        calls = (say(0, ALL, RECEIVE, 1, 2), *data_row([1, 2], 0))
        self.assertEqual(output_after(*calls), SILENCE)
        seen = seen_after(*calls)
        self.assertEqual((seen.got[1], seen.messages, seen.last_status), ([1, 2], 1, 0))

    def test_messages_are_counted_modulo_65536(self):
        # No line is long enough to get there.
        terminal = Terminal()
        terminal.messages = 65534
        for messages in (65535, 0, 1):
            for call in [say(0, 0, RECEIVE, 1, 1), data(2, 20)]:
                answer(terminal, call)
            self.assertEqual(answer(terminal, told())[5:], [messages, 0])

    def test_a_data_word_may_be_any_word(self):
        seen = seen_after(ASK_TWO, *data_row([command(OWN, TRANSMIT, 1, 1), 65535], 0))
        self.assertEqual(seen.got[1], [command(OWN, TRANSMIT, 1, 1), 65535])


class Times(unittest.TestCase):
    def test_gaps_of_20_to_23_follow(self):
        for first in range(20, 24):
            for second in range(20, 24):
                calls = (ASK_TWO, data(1, first), data(2, first + second))
                self.assertEqual(output_after(*calls), sent(status()))
                self.assertEqual(seen_after(*calls).errors, 0)

    def test_other_gaps_behind_the_command_fail(self):
        for gap in (0, 1, 18, 19, 24, 25, 57, 58, 1000, 2**31, WRAP - 1):
            seen = seen_after(ASK_TWO, data(1, gap), data(2, at(gap, 20)))
            self.assertEqual(failed(seen), FAILED)

    def test_other_gaps_behind_a_data_word_fail(self):
        for gap in (0, 1, 18, 19, 24, 25, 57, 58, 1000, 2**31, WRAP - 40):
            seen = seen_after(ASK_TWO, data(1, 20), data(2, at(20, gap)), data(3, at(40, gap)))
            self.assertEqual(failed(seen), FAILED)

    def test_times_wrap(self):
        for start in (WRAP - 1, WRAP - 19, WRAP - 20, WRAP - 23, WRAP - 39, WRAP - 45):
            calls = (say(start, OWN, RECEIVE, 1, 2), data(1, at(start, 23)), data(2, at(start, 43)))
            self.assertEqual(output_after(*calls), sent(status()))
            for gap in (19, 24):
                self.assertEqual(failed(seen_after(calls[0], data(1, at(start, gap)))), FAILED)
                self.assertEqual(failed(seen_after(*calls[:2], data(1, at(start, 23 + gap)))), FAILED)

    def test_a_tick_sees_the_silence_from_24_on(self):
        for now in (0, 19, 20, 23):
            seen = seen_after(ASK_TWO, tick(now))
            self.assertEqual((seen.error, seen.errors), (0, 0))
        for now in (24, 25, 57, 58, 5000, WRAP - 1):
            self.assertEqual(failed(seen_after(ASK_TWO, tick(now))), FAILED)

    def test_a_tick_is_behind_the_last_word(self):
        self.assertEqual(seen_after(ASK_TWO, data(1, 22), tick(45)).errors, 0)
        self.assertEqual(failed(seen_after(ASK_TWO, data(1, 22), tick(46))), FAILED)

    def test_a_tick_wraps(self):
        asked = say(WRAP - 10, OWN, RECEIVE, 1, 1)
        self.assertEqual(seen_after(asked, tick(13)).errors, 0)
        self.assertEqual(failed(seen_after(asked, tick(14))), FAILED)

    def test_a_tick_in_time_does_not_stop_the_command(self):
        self.assertEqual(output_after(ASK_TWO, tick(23), data(1, 23), tick(24), data(2, 43)), sent(status()))

    def test_the_silence_is_counted_once(self):
        seen = seen_after(ASK_TWO, tick(24), tick(100), data(1, 200), tick(300))
        self.assertEqual(failed(seen), FAILED)

    def test_a_tick_ends_the_command(self):
        # The times come round again: behind the tick the word would be in time.
        self.assertEqual(output_after(say(0, OWN, RECEIVE, 1, 1), tick(24), data(1, 20)), SILENCE)

    def test_the_silence_is_seen_by_a_command(self):
        calls = (ASK_TWO, say(24, OWN, TRANSMIT, 1, 1))
        self.assertEqual(output_after(*calls), sent(status(), 0))
        self.assertEqual(seen_after(*calls).errors, 1)

    def test_the_silence_shows_in_the_status_of_mode_code_18(self):
        asked = command(OWN, RECEIVE, 1, 2)
        self.assertEqual(output_after(ASK_TWO, mode(24, 18)), sent(status(error=1), asked))
        self.assertEqual(output_after(ASK_TWO, mode(23, 18)), sent(status(), asked))

    def test_the_silence_is_seen_by_a_word_to_another_terminal(self):
        self.assertEqual(failed(seen_after(ASK_TWO, say(24, OTHER, TRANSMIT, 1, 1), word(0, OTHER << 11, 50))),
                         FAILED)


class NotSo(unittest.TestCase):
    def test_a_word_that_is_not_good(self):
        self.assertEqual(failed(seen_after(ASK_TWO, data(1, 20, good=0), data(2, 40))), FAILED)
        self.assertEqual(failed(seen_after(ASK_TWO, data(1, 20), data(2, 40, good=0), data(3, 60))), FAILED)

    def test_a_command_that_is_not_good(self):
        for value in (command(OWN, TRANSMIT, 1, 1), command(OTHER, TRANSMIT, 1, 1)):
            calls = (ASK_TWO, word(0, value, 20, good=0))
            self.assertEqual(failed(seen_after(*calls)), FAILED)

    def test_another_sync(self):
        for value in (command(OTHER, RECEIVE, 1, 1), OTHER << 11):
            self.assertEqual(failed(seen_after(ASK_TWO, word(0, value, 20), data(1, 40), data(2, 60))), FAILED)

    def test_a_senders_command_behind_a_data_word(self):
        calls = (ASK_TWO, data(1, 20), say(40, OTHER, TRANSMIT, 1, 1), word(0, OTHER << 11, 60), *data_row([2, 3], 60))
        self.assertEqual(failed(seen_after(*calls)), FAILED)

    def test_each_failure_is_counted(self):
        calls = []
        for turn in range(5):
            calls += [say(turn * 100, OWN, RECEIVE, 1, 1), data(1, turn * 100 + 19)]
        self.assertEqual(seen_after(*calls).errors, 5)

    def test_errors_are_counted_modulo_65536(self):
        # No line is long enough to get there.
        terminal = Terminal()
        terminal.errors = 65534
        for errors in (65535, 0, 1):
            for call in [say(0, 0, RECEIVE, 1, 1), data(2, 19)]:
                answer(terminal, call)
            self.assertEqual(answer(terminal, told())[5:], [0, errors])

    def test_what_was_got_before_stays(self):
        seen = seen_after(say(0, OWN, RECEIVE, 1, 1), data(7, 20), say(100, OWN, RECEIVE, 1, 1),
                                  data(8, 120, good=0))
        self.assertEqual((seen.got[1], seen.messages, seen.errors), ([7], 1, 1))

    def test_to_all_fails_alike(self):
        seen = seen_after(say(0, ALL, RECEIVE, 1, 1), data(7, 19))
        self.assertEqual(failed(seen), FAILED)
        self.assertEqual(seen.to_all, 1)

    def test_a_failure_shows_in_the_status_of_mode_code_18(self):
        told = output_after(ASK_TWO, data(1, 20), data(2, 40, good=0), mode(500, 18))
        self.assertEqual(told, sent(status(error=1), command(OWN, RECEIVE, 1, 2)))


class FromTerminalToTerminal(unittest.TestCase):
    def calls(self, first=20, second=30, third=20, asked=OWN, sender=OTHER):
        start = WRAP - 25
        return (say(start, asked, RECEIVE, 1, 2), say(at(start, first), sender, TRANSMIT, 3, 2),
                word(0, sender << 11, at(start, first + second)), data(7, at(start, first + second + third)),
                data(8, at(start, first + second + third + 20)))

    def test_the_data_is_got(self):
        self.assertEqual(output_after(*self.calls()), sent(status()))
        self.assertEqual(output_after(*self.calls()[:-1]), SILENCE)
        seen = seen_after(*self.calls())
        self.assertEqual((seen.got[1], seen.messages, seen.errors), ([7, 8], 1, 0))

    def test_each_count(self):
        for count in range(32):
            row = [700 + place for place in range(32 if count == 0 else count)]
            calls = (say(0, OWN, RECEIVE, 1, count), say(20, OTHER, TRANSMIT, 3, count), word(0, OTHER << 11, 40),
                     *data_row(row, 40))
            self.assertEqual(output_after(*calls), sent(status()))
            self.assertEqual(seen_after(*calls).got[1], row)

    def test_to_all_the_data_is_got_and_nothing_is_sent(self):
        seen = seen_after(*self.calls(asked=ALL))
        self.assertEqual((seen.got[1], seen.messages, seen.to_send), ([7, 8], 1, []))

    def test_each_other_terminal_may_send(self):
        for sender in range(31):
            if sender != OWN:
                self.assertEqual(seen_after(*self.calls(sender=sender)).got[1], [7, 8])

    def test_a_senders_command_of_mode_is_one_too(self):
        calls = (ASK_TWO, say(20, OTHER, TRANSMIT, 0, 2), word(0, OTHER << 11, 40), *data_row([7, 8], 40))
        self.assertEqual(seen_after(*calls).got[1], [7, 8])

    def test_the_senders_command_follows(self):
        for first in (20, 21, 22, 23):
            self.assertEqual(output_after(*self.calls(first=first)), sent(status()))
        for first in (0, 19, 24, 57):
            self.assertEqual(failed(seen_after(*self.calls(first=first))), FAILED)

    def test_the_senders_status_is_20_to_57_behind(self):
        for second in (20, 21, 23, 24, 56, 57):
            self.assertEqual(output_after(*self.calls(second=second)), sent(status()))
        for second in (0, 19, 58, 59, 1000):
            self.assertEqual(failed(seen_after(*self.calls(second=second))), FAILED)

    def test_the_data_follows_the_senders_status(self):
        for third in (20, 21, 22, 23):
            self.assertEqual(output_after(*self.calls(third=third)), sent(status()))
        for third in (0, 19, 24, 57):
            self.assertEqual(failed(seen_after(*self.calls(third=third))), FAILED)

    def test_a_tick_sees_the_silence_from_58_on(self):
        calls = (ASK_TWO, say(20, OTHER, TRANSMIT, 3, 2))
        for now in (43, 44, 77):
            self.assertEqual(seen_after(*calls, tick(now)).errors, 0)
        self.assertEqual(failed(seen_after(*calls, tick(78))), FAILED)

    def test_behind_the_senders_status_a_tick_sees_it_from_24_on(self):
        calls = (ASK_TWO, say(20, OTHER, TRANSMIT, 3, 2), word(0, OTHER << 11, 50))
        self.assertEqual(seen_after(*calls, tick(73)).errors, 0)
        self.assertEqual(failed(seen_after(*calls, tick(74))), FAILED)

    def test_a_senders_command_that_is_none(self):
        for wrong in (say(20, OTHER, RECEIVE, 3, 2), word(0, command(OTHER, TRANSMIT, 3, 2), 20, good=0)):
            seen = seen_after(ASK_TWO, wrong, word(0, OTHER << 11, 50), *data_row([7, 8], 50))
            self.assertEqual(failed(seen), FAILED)

    def test_a_status_without_a_senders_command_is_none(self):
        for sender in (0, OTHER, 30):
            seen = seen_after(ASK_TWO, word(0, sender << 11, 20), *data_row([7, 8], 20))
            self.assertEqual(failed(seen), FAILED)

    def test_a_senders_status_that_is_none(self):
        calls = (ASK_TWO, say(20, OTHER, TRANSMIT, 3, 2))
        for wrong in (word(0, (OTHER + 1) << 11, 50), word(0, (OTHER - 1) << 11, 50), word(0, OTHER << 11, 50, good=0),
                      data(OTHER << 11, 50)):
            self.assertEqual(failed(seen_after(*calls, wrong, *data_row([7, 8], 50))), FAILED)
            late_right = word(0, OTHER << 11, 70)
            self.assertEqual(failed(seen_after(*calls, wrong, late_right, *data_row([7, 8], 70))), FAILED)

    def test_a_senders_status_may_have_its_other_bits_set(self):
        calls = (ASK_TWO, say(20, OTHER, TRANSMIT, 3, 2), word(0, OTHER << 11 | 2047, 50), *data_row([7, 8], 50))
        self.assertEqual(seen_after(*calls).got[1], [7, 8])

    def test_no_second_senders_command(self):
        calls = (ASK_TWO, say(20, OTHER, TRANSMIT, 3, 2), word(0, OTHER << 11, 40), say(60, OTHER, TRANSMIT, 3, 2))
        self.assertEqual(failed(seen_after(*calls)), FAILED)

    def test_a_transmit_command_to_this_terminal_begins_a_command(self):
        calls = (say(0, ALL, RECEIVE, 1, 1), say(20, OWN, TRANSMIT, 3, 1))
        self.assertEqual(output_after(*calls), sent(status(), 0))
        self.assertEqual(seen_after(*calls).errors, 0)

    def test_a_transmit_command_to_all_begins_a_command(self):
        seen = seen_after(ASK_TWO, say(20, ALL, TRANSMIT, 3, 2), tick(500))
        self.assertEqual((seen.error, seen.errors, seen.to_all), (1, 1, 1))

    def test_a_mode_command_has_no_sender(self):
        seen = seen_after(mode(0, 17, transmit=0), say(20, OTHER, TRANSMIT, 3, 1), word(0, OTHER << 11, 50),
                                  data(7, 70))
        self.assertEqual((failed(seen), seen.step), (FAILED, 0))


class BusyAndAllowed(unittest.TestCase):
    BEFORE = (say(0, OWN, RECEIVE, 1, 1), data(3, 20))

    def ended(self, address, *calls):
        """Behind a message of before the calls, then another."""
        return seen_after(*self.BEFORE, output(), *calls, say(100, address, RECEIVE, 1, 1), data(7, 120))

    def test_busy_is_told_and_nothing_is_got(self):
        seen = self.ended(OWN, flags(BUSY))
        self.assertEqual((seen.got[1], seen.messages, seen.errors, seen.error), ([3], 1, 0, 0))
        self.assertEqual(seen.to_send, sent(status(busy=1))[1:])

    def test_busy_to_all_nothing_is_got_and_nothing_sent(self):
        seen = self.ended(ALL, flags(BUSY))
        self.assertEqual((seen.got[1], seen.messages, seen.errors, seen.error, seen.to_send), ([3], 1, 0, 0, []))

    def test_the_other_flags_keep_nothing_from_being_got(self):
        for address in (OWN, ALL):
            seen = self.ended(address, flags(31 ^ BUSY))
            self.assertEqual((seen.got[1], seen.messages, seen.errors, seen.error), ([7], 2, 0, 0))

    def test_busy_is_asked_when_all_words_are_there(self):
        asked = say(0, OWN, RECEIVE, 1, 2), data(1, 20)
        seen = seen_after(*asked, flags(BUSY), data(2, 40))
        self.assertEqual((seen.got[1], seen.messages, seen.last_status), ([], 0, status(busy=1)))
        seen = seen_after(flags(BUSY), *asked, flags(0), data(2, 40))
        self.assertEqual((seen.got[1], seen.messages, seen.last_status), ([1, 2], 1, status()))

    def test_not_allowed_is_an_error_that_is_not_counted(self):
        seen = self.ended(OWN, forbid(TO_RECEIVE, 1, 1))
        self.assertEqual((seen.got[1], seen.messages, seen.errors, seen.error), ([3], 1, 0, 1))
        self.assertEqual(seen.to_send, sent(status(error=1))[1:])

    def test_to_all_not_allowed_nothing_is_sent(self):
        seen = self.ended(ALL, forbid(TO_RECEIVE_TO_ALL, 1, 1))
        self.assertEqual((seen.got[1], seen.messages, seen.errors, seen.error), ([3], 1, 0, 1))
        self.assertEqual((seen.to_send, seen.to_all, seen.last_status), ([], 1, status()))

    def test_not_allowed_goes_before_busy(self):
        self.assertEqual(self.ended(OWN, flags(BUSY), forbid(TO_RECEIVE, 1, 1)).last_status, status(error=1, busy=1))
        self.assertEqual(self.ended(ALL, flags(BUSY), forbid(TO_RECEIVE_TO_ALL, 1, 1)).error, 1)

    def test_each_what_has_its_own_allowance(self):
        for address, own in ((OWN, TO_RECEIVE), (ALL, TO_RECEIVE_TO_ALL)):
            for what in range(5):
                sub = 1 if what < 3 else 0
                got = [3] if what == own else [7]
                self.assertEqual(self.ended(address, allow(what, sub, 0)).got[1], got)

    def test_each_sub_has_its_own_allowance(self):
        for address, what in ((OWN, TO_RECEIVE), (ALL, TO_RECEIVE_TO_ALL)):
            for sub in range(32):
                self.assertEqual(self.ended(address, allow(what, sub, 0)).got[1], [3] if sub == 1 else [7])

    def test_each_count_has_its_own_bit(self):
        for count in range(32):
            row = [700 + place for place in range(32 if count == 0 else count)]
            asked = (say(0, OWN, RECEIVE, 4, count), *data_row(row, 0))
            self.assertEqual(seen_after(allow(TO_RECEIVE, 4, 1 << count), *asked).got[4], row)
            seen = seen_after(forbid(TO_RECEIVE, 4, count), *asked)
            self.assertEqual((seen.got[4], seen.last_status), ([], status(error=1)))

    def test_it_is_asked_when_all_words_are_there(self):
        asked = say(0, OWN, RECEIVE, 1, 2), data(1, 20)
        seen = seen_after(*asked, forbid(TO_RECEIVE, 1, 2), data(2, 40))
        self.assertEqual((seen.got[1], seen.last_status), ([], status(error=1)))
        seen = seen_after(forbid(TO_RECEIVE, 1, 2), *asked, allow(TO_RECEIVE, 1, 1 << 2), data(2, 40))
        self.assertEqual((seen.got[1], seen.last_status), ([1, 2], status()))

    def test_words_that_are_not_allowed_are_awaited_and_may_fail(self):
        self.assertEqual(failed(seen_after(forbid(TO_RECEIVE, 1, 2), ASK_TWO, data(1, 20), data(2, 44))), FAILED)
        self.assertEqual(failed(seen_after(flags(BUSY), ASK_TWO, data(1, 20), data(2, 40, good=0))), FAILED)

    def test_from_terminal_to_terminal(self):
        asked = (ASK_TWO, say(20, OTHER, TRANSMIT, 3, 2), word(0, OTHER << 11, 50), *data_row([7, 8], 50))
        self.assertEqual(seen_after(flags(BUSY), *asked).last_status, status(busy=1))
        self.assertEqual(seen_after(flags(BUSY), *asked).got[1], [])
        self.assertEqual(seen_after(forbid(TO_RECEIVE, 1, 2), *asked).last_status, status(error=1))
        self.assertEqual(seen_after(forbid(TO_TRANSMIT, 3, 2), *asked).got[1], [7, 8])


if __name__ == "__main__":
    unittest.main()
