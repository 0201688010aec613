"""Promise 1: begin."""

import unittest

from tests.bus import (ALL, OWN, RECEIVE, SILENCE, TRANSMIT, ask, begin, data, give, mode, output, output_after, say,
                       sent, status, terminal_after, tick)


class Addresses(unittest.TestCase):
    def test_addresses_0_to_30_begin(self):
        for address in range(31):
            self.assertEqual(ask(begin(address)), [[0]])

    def test_other_addresses_are_refused(self):
        for address in (-2147483648, -32, -2, -1, 31, 32, 33, 64, 2147483647):
            self.assertEqual(ask(begin(), begin(address)), [[0], [-2]])

    def test_the_address_is_the_one_answered_to(self):
        for address in (0, 1, 15, 30):
            for spoken_to in (0, 1, 15, 29, 30):
                told = ask(begin(address), say(0, spoken_to, TRANSMIT, 1, 1), output())[-1]
                expected = sent(status(address), 0) if address == spoken_to else SILENCE
                self.assertEqual(told, expected)


class Refused(unittest.TestCase):
    def test_a_refused_begin_changes_nothing(self):
        told = ask(begin(3), give(2, [77]), say(0, 3, TRANSMIT, 2, 1), begin(31), output(),
                   begin(-1), say(100, 3, TRANSMIT, 2, 1), output())
        self.assertEqual(told[4], sent(status(3), 77))
        self.assertEqual(told[7], sent(status(3), 77))

    def test_a_refused_begin_does_not_stop_the_command(self):
        told = output_after(say(0, OWN, RECEIVE, 1, 1), begin(31), data(4, 20))
        self.assertEqual(told, sent(status()))


class Again(unittest.TestCase):
    def test_what_was_given_is_gone(self):
        self.assertEqual(output_after(give(2, [77]), begin(), say(0, OWN, TRANSMIT, 2, 1)), sent(status(), 0))

    def test_what_was_to_be_sent_is_gone(self):
        self.assertEqual(output_after(say(0, OWN, TRANSMIT, 2, 1), begin()), SILENCE)

    def test_the_command_that_went_on_is_gone(self):
        terminal = terminal_after(say(0, OWN, RECEIVE, 1, 1), begin(), data(4, 20), tick(1000))
        self.assertEqual((terminal.to_send, terminal.errors, terminal.got[1]), ([], 0, []))

    def test_the_last_command_and_status_are_0(self):
        self.assertEqual(output_after(say(0, OWN, TRANSMIT, 2, 1), begin(), mode(100, 18)), sent(status(), 0))
        self.assertEqual(output_after(say(0, OWN, TRANSMIT, 2, 1), begin(), mode(100, 2)), sent(0))

    def test_error_and_to_all_are_0(self):
        told = output_after(say(0, ALL, TRANSMIT, 2, 1), begin(), mode(100, 18))
        self.assertEqual(told, sent(status(), 0))

    def test_the_address_is_the_new_one(self):
        told = ask(begin(3), begin(4), say(0, 3, TRANSMIT, 2, 1), output(), say(90, 4, TRANSMIT, 2, 1), output())
        self.assertEqual(told[3], SILENCE)
        self.assertEqual(told[5], sent(status(4), 0))

    def test_all_that_is_kept_is_as_at_the_beginning(self):
        terminal = terminal_after(say(0, OWN, RECEIVE, 1, 1), data(4, 20), mode(100, 4), mode(200, 6),
                                  mode(300, 17, transmit=0), data(9, 320), tick(400), say(500, ALL, TRANSMIT, 1, 1))
        self.assertEqual((terminal.messages, terminal.errors, terminal.other_wire_off, terminal.hushed), (1, 1, 1, 1))
        self.assertEqual((terminal.step, terminal.got[1]), (9, [4]))
        terminal.flags = 31
        terminal.allowed[0][1] = 0
        terminal.begin_anew(OWN)
        self.assertEqual(vars(terminal), vars(terminal_after()))
        self.assertEqual((terminal.messages, terminal.errors, terminal.other_wire_off, terminal.hushed), (0, 0, 0, 0))
        self.assertEqual((terminal.step, terminal.flags, terminal.got), (0, 0, [[]] * 32))


if __name__ == "__main__":
    unittest.main()
