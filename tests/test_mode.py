"""The mode commands."""

import unittest

from busterminal.commands import hear
from tests.bus import (ALL, OWN, RECEIVE, SILENCE, TRANSMIT, ask, begin, command, data, give, mode, output,
                       output_after, say, sent, status, terminal_after, tick, word)


def kept(terminal):
    return (terminal.step, terminal.other_wire_off, terminal.hushed)


def changed():
    """A terminal of which everything that a mode command changes is not as at the beginning."""
    return terminal_after(mode(0, 17, transmit=0), data(300, 20), mode(100, 4), mode(200, 6))


def by_mode(terminal, code, address=OWN, transmit=1, sub=0):
    hear(terminal, 0, command(address, transmit, sub, code), True, 1000)
    return terminal


class LowCodes(unittest.TestCase):
    def test_codes_0_to_8_send_the_status(self):
        for sub in (0, 31):
            for code in (0, 1, 3, 4, 5, 6, 7, 8):
                self.assertEqual(output_after(mode(0, code, sub=sub)), sent(status()))

    def test_codes_9_to_15_are_not_allowed(self):
        for sub in (0, 31):
            for code in range(9, 16):
                self.assertEqual(output_after(mode(0, code, sub=sub)), sent(status(error=1)))
                self.assertEqual(terminal_after(mode(0, code)).errors, 0)

    def test_bit_10_clear_is_an_error(self):
        for sub in (0, 31):
            for code in range(16):
                self.assertEqual(output_after(mode(0, code, transmit=0, sub=sub)), sent(status(error=1)))

    def test_bit_10_clear_does_nothing_and_awaits_nothing(self):
        for code in range(16):
            terminal = by_mode(changed(), code, transmit=0)
            hear(terminal, 1, 7, True, 1020)
            self.assertEqual(kept(terminal), (300, 1, 1))
            self.assertEqual((terminal.errors, terminal.messages), (0, 0))

    def test_to_all_nothing_is_sent(self):
        for transmit in (0, 1):
            for code in range(16):
                terminal = terminal_after(mode(0, code, ALL, transmit))
                self.assertEqual((terminal.to_send, terminal.errors, terminal.last_status), ([], 0, 0))

    def test_to_all_codes_0_and_2_are_an_error(self):
        for code in range(16):
            error = 1 if code in (0, 2) or code > 8 else 0
            self.assertEqual(output_after(mode(0, code, ALL), mode(100, 18)),
                             sent(status(error=error, to_all=1), command(ALL, 1, 0, code)))

    def test_what_each_code_does(self):
        done = {1: (0, 1, 1), 5: (300, 0, 1), 7: (300, 1, 0), 8: (300, 0, 0)}
        for address in (OWN, ALL):
            for sub in (0, 31):
                for code in range(16):
                    self.assertEqual(kept(by_mode(changed(), code, address, sub=sub)), done.get(code, (300, 1, 1)))
                self.assertEqual(kept(by_mode(terminal_after(), 4, address, sub=sub)), (0, 1, 0))
                self.assertEqual(kept(by_mode(terminal_after(), 6, address, sub=sub)), (0, 0, 1))

    def test_the_hushed_fault_is_gone_from_this_very_status(self):
        terminal = terminal_after()
        terminal.flags = 8
        told = [by_mode(terminal, code).last_status - status() for code in (1, 6, 1, 7, 6, 8)]
        self.assertEqual(told, [1, 0, 0, 1, 0, 1])

    def test_control_is_taken_if_flags_let_it_in_this_status_alone(self):
        terminal = terminal_after()
        self.assertEqual(by_mode(terminal, 0).last_status, status())
        terminal.flags = 16
        told = [by_mode(terminal, code).last_status - status() for code in (1, 0, 1, 18, 0, 2)]
        self.assertEqual(told, [0, 2, 0, 0, 2, 2])

    def test_control_is_not_taken_if_it_is_not_in_order(self):
        terminal = terminal_after()
        terminal.flags = 16
        self.assertEqual(by_mode(terminal, 0, transmit=0).last_status, status(error=1))
        self.assertEqual(by_mode(terminal, 0, ALL).last_status, status(error=1))

    def test_allowed_is_asked_of_sub_0(self):
        for sub in (0, 31):
            terminal = changed()
            terminal.allowed[3][0] = 1 << 9
            self.assertEqual(by_mode(terminal, 1, sub=sub).last_status, status(error=1))
            self.assertEqual(kept(terminal), (300, 1, 1))
            self.assertEqual(by_mode(terminal, 9, sub=sub).last_status, status())

    def test_codes_9_to_15_do_nothing_where_they_are_allowed(self):
        for code in range(9, 16):
            terminal = changed()
            terminal.allowed[3][0] = 1 << code
            self.assertEqual(by_mode(terminal, code).last_status, status())
            self.assertEqual(kept(terminal), (300, 1, 1))


class LastStatus(unittest.TestCase):
    def test_it_is_0_before_a_status_is_sent(self):
        self.assertEqual(output_after(mode(0, 2)), [1, 0x20000])

    def test_it_is_sent_again_as_it_was(self):
        self.assertEqual(output_after(mode(0, 9), mode(100, 2)), sent(status(error=1)))
        self.assertEqual(output_after(mode(0, 9), mode(100, 1), mode(200, 2)), sent(status()))
        self.assertEqual(output_after(mode(0, 1), mode(100, 2), mode(200, 2)), sent(status()))

    def test_it_is_of_sub_31_too(self):
        self.assertEqual(output_after(mode(0, 9), mode(100, 2, sub=31)), sent(status(error=1)))

    def test_it_is_the_one_sent_not_one_that_would_be(self):
        told = output_after(say(0, OWN, TRANSMIT, 1, 1), say(100, ALL, TRANSMIT, 1, 1), mode(200, 2))
        self.assertEqual(told, sent(status()))
        terminal = by_mode(terminal_after(), 1)
        terminal.flags = 15
        self.assertEqual(by_mode(terminal, 2).last_status, status())

    def test_it_is_sent_though_it_was_not_fetched(self):
        told = ask(begin(), say(0, OWN, TRANSMIT, 1, 2), mode(100, 2), output(), output())
        self.assertEqual(told[3:], [sent(status()), SILENCE])

    def test_not_in_order_the_status_is_sent_with_error(self):
        self.assertEqual(output_after(mode(0, 1), mode(100, 2, transmit=0)), sent(status(error=1)))


class SendingCodes(unittest.TestCase):
    def test_code_16_sends_the_first_given_for_sub_0(self):
        for sub in (0, 31):
            self.assertEqual(output_after(give(0, [8, 9]), give(31, [7]), mode(0, 16, sub=sub)), sent(status(), 8))
            self.assertEqual(output_after(give(31, [7]), mode(0, 16, sub=sub)), sent(status(), 0))

    def test_code_19_sends_the_first_given_for_sub_31(self):
        for sub in (0, 31):
            self.assertEqual(output_after(give(31, [8, 9]), give(0, [7]), mode(0, 19, sub=sub)), sent(status(), 8))
            self.assertEqual(output_after(give(0, [7]), mode(0, 19, sub=sub)), sent(status(), 0))

    def test_code_18_sends_the_last_command(self):
        for sub in (0, 31):
            told = output_after(say(0, OWN, TRANSMIT, 3, 4), mode(100, 18, sub=sub))
            self.assertEqual(told, sent(status(), command(OWN, TRANSMIT, 3, 4)))

    def test_to_all_is_an_error_and_nothing_is_sent(self):
        for code in (16, 18, 19):
            self.assertEqual(output_after(give(0, [8]), mode(0, code, ALL)), SILENCE)
            terminal = terminal_after(mode(0, code, ALL))
            self.assertEqual((terminal.error, terminal.to_all, terminal.errors), (1, 1, 0))

    def test_bit_10_clear_is_an_error(self):
        for code in (16, 18, 19):
            self.assertEqual(output_after(give(0, [8]), mode(0, code, transmit=0)), sent(status(error=1)))

    def test_busy_sends_the_status_alone_but_of_code_18(self):
        terminal = terminal_after(give(0, [8]), give(31, [9]))
        terminal.flags = 1
        self.assertEqual([len(by_mode(terminal, code).to_send) for code in (16, 18, 19)], [1, 2, 1])
        self.assertEqual(terminal.last_status, status() + 8)

    def test_not_allowed_sends_the_status_alone_with_error(self):
        for code in (16, 18, 19):
            terminal = terminal_after(give(0, [8]), give(31, [9]))
            terminal.allowed[4][0] = 0xFFFFFFFF ^ 1 << code
            by_mode(terminal, code)
            self.assertEqual([1] + terminal.to_send, sent(status(error=1)))


class TakingCodes(unittest.TestCase):
    def test_the_status_is_sent_when_the_word_has_come(self):
        for sub in (0, 31):
            for code in (17, 20, 21):
                asked = mode(0, code, transmit=0, sub=sub)
                self.assertEqual(output_after(asked), SILENCE)
                self.assertEqual(output_after(asked, data(1, 20)), sent(status()))

    def test_no_message_is_counted_and_nothing_got(self):
        terminal = terminal_after(mode(0, 17, transmit=0), data(5, 20), tick(500))
        self.assertEqual((terminal.messages, terminal.errors, terminal.got), (0, 0, [[]] * 32))

    def test_what_each_code_does(self):
        for address in (OWN, ALL):
            for value in (0, 1, 2, 3, 65535):
                for code, off, on in ((17, (value, 0, 0), (value, 1, 1)), (20, (0, int(value == 1), 0), (300, 1, 1)),
                                      (21, (0, 0, 0), (300, 0 if value == 1 else 1, 1))):
                    for terminal, expected in ((terminal_after(), off), (changed(), on)):
                        by_mode(terminal, code, address, transmit=0)
                        hear(terminal, 1, value, True, 1020)
                        self.assertEqual(kept(terminal), expected)
                        self.assertEqual((terminal.error, terminal.errors), (0, 0))

    def test_to_all_nothing_is_sent(self):
        for code in (17, 20, 21):
            self.assertEqual(output_after(mode(0, code, ALL, transmit=0), data(1, 20)), SILENCE)

    def test_the_word_follows(self):
        for gap in (20, 21, 22, 23):
            self.assertEqual(output_after(mode(0, 17, transmit=0), data(5, gap)), sent(status()))
        for gap in (0, 19, 24, 57):
            terminal = terminal_after(mode(0, 17, transmit=0), data(5, gap), data(6, 20))
            self.assertEqual((terminal.step, terminal.error, terminal.errors, terminal.to_send), (0, 1, 1, []))

    def test_a_word_that_is_none_is_a_counted_error(self):
        for wrong in (data(5, 20, good=0), word(0, 5, 20), tick(24)):
            terminal = terminal_after(mode(0, 17, transmit=0), wrong, data(6, 20))
            self.assertEqual((terminal.step, terminal.error, terminal.errors, terminal.to_send), (0, 1, 1, []))

    def test_bit_10_set_is_an_error_at_once(self):
        for code in (17, 20, 21):
            self.assertEqual(output_after(mode(0, code)), sent(status(error=1)))
            terminal = terminal_after(mode(0, code), data(1, 20), tick(500))
            self.assertEqual((kept(terminal), terminal.errors), ((0, 0, 0), 0))

    def test_not_allowed_is_an_error_when_the_word_has_come(self):
        for code in (17, 20, 21):
            for address in (OWN, ALL):
                terminal = terminal_after()
                terminal.allowed[4][0] = 0xFFFFFFFF ^ 1 << code
                by_mode(terminal, code, address, transmit=0)
                self.assertEqual((terminal.error, terminal.to_send), (0, []))
                hear(terminal, 1, 1, True, 1020)
                self.assertEqual((kept(terminal), terminal.error, terminal.errors), ((0, 0, 0), 1, 0))
                self.assertEqual(terminal.last_status, status(error=1) if address == OWN else 0)

    def test_busy_does_not_keep_it_from_being_done(self):
        terminal = terminal_after(mode(0, 17, transmit=0))
        terminal.flags = 1
        hear(terminal, 1, 5, True, 20)
        self.assertEqual((terminal.step, terminal.last_status), (5, status() + 8))


class OtherCodes(unittest.TestCase):
    def test_codes_22_to_31_are_an_error(self):
        for sub in (0, 31):
            for transmit in (0, 1):
                for code in range(22, 32):
                    calls = mode(0, code, transmit=transmit, sub=sub), data(1, 20), tick(500)
                    self.assertEqual(output_after(calls[0]), sent(status(error=1)))
                    self.assertEqual(terminal_after(*calls).errors, 0)

    def test_they_are_an_error_even_if_allowed(self):
        for code in range(22, 32):
            terminal = terminal_after()
            terminal.allowed[4][0] = 0xFFFFFFFF
            self.assertEqual(by_mode(terminal, code).last_status, status(error=1))

    def test_to_all_nothing_is_sent(self):
        for transmit in (0, 1):
            for code in range(22, 32):
                self.assertEqual(output_after(mode(0, code, ALL, transmit)), SILENCE)
                self.assertEqual(terminal_after(mode(0, code, ALL, transmit)).error, 1)

    def test_subs_1_and_30_are_no_mode_commands(self):
        for sub in (1, 30):
            self.assertEqual(output_after(say(0, OWN, TRANSMIT, sub, 1)), sent(status(), 0))
            self.assertEqual(output_after(say(0, OWN, RECEIVE, sub, 31)), SILENCE)


if __name__ == "__main__":
    unittest.main()
