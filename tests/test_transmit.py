"""Transmit."""

import unittest

from busterminal.commands import hear
from tests.bus import (ALL, OWN, SILENCE, TRANSMIT, command, give, mode, output_after, say, sent, status,
                       terminal_after, tick)


class Transmit(unittest.TestCase):
    def test_each_count(self):
        row = [300 + place for place in range(32)]
        for count in range(32):
            size = 32 if count == 0 else count
            self.assertEqual(output_after(give(6, row), say(0, OWN, TRANSMIT, 6, count)),
                             sent(status(), *row[:size]))

    def test_0_behind_what_is_given(self):
        for size in (0, 1, 2, 31):
            row = [300 + place for place in range(size)]
            self.assertEqual(output_after(give(6, row), say(0, OWN, TRANSMIT, 6, 0)),
                             sent(status(), *row, *[0] * (32 - size)))

    def test_each_sub(self):
        for sub in range(1, 31):
            self.assertEqual(output_after(say(0, OWN, TRANSMIT, sub, 2)), sent(status(), 0, 0))

    def test_nothing_is_awaited_behind_it(self):
        terminal = terminal_after(say(0, OWN, TRANSMIT, 1, 1), tick(500))
        self.assertEqual((terminal.errors, terminal.messages), (0, 0))

    def test_to_all_is_a_counted_error_and_nothing_is_sent(self):
        calls = (say(0, ALL, TRANSMIT, 1, 1), tick(500))
        self.assertEqual(output_after(*calls), SILENCE)
        terminal = terminal_after(*calls)
        self.assertEqual((terminal.error, terminal.errors, terminal.last_status), (1, 1, 0))
        self.assertEqual(output_after(*calls, mode(600, 18)),
                         sent(status(error=1, to_all=1), command(ALL, TRANSMIT, 1, 1)))

    def answered(self, terminal):
        hear(terminal, 0, command(OWN, TRANSMIT, 6, 3), True, 0)
        return [len(terminal.to_send)] + terminal.to_send

    def test_busy_sends_the_status_alone(self):
        terminal = terminal_after(give(6, [1, 2, 3]))
        terminal.flags = 1
        self.assertEqual(self.answered(terminal), sent(status() + 8))

    def test_not_allowed_sends_the_status_alone_with_error(self):
        terminal = terminal_after(give(6, [1, 2, 3]))
        terminal.allowed[1][6] = 0xFFFFFFFF ^ 1 << 3
        self.assertEqual(self.answered(terminal), sent(status(error=1)))
        self.assertEqual(terminal.errors, 0)


class Status(unittest.TestCase):
    """What no call can set yet is set on the terminal itself."""

    def status_by(self, flags, hushed=0):
        terminal = terminal_after()
        terminal.flags = flags
        terminal.hushed = hushed
        hear(terminal, 0, command(OWN, TRANSMIT, 6, 3), True, 0)
        return terminal.last_status - status()

    def test_each_flag_has_its_bit(self):
        self.assertEqual([self.status_by(flags) for flags in (0, 1, 2, 4, 8, 16, 31)], [0, 8, 256, 4, 1, 0, 269])

    def test_a_hushed_fault_is_not_shown(self):
        self.assertEqual([self.status_by(flags, hushed=1) for flags in (0, 8, 31)], [0, 0, 268])


if __name__ == "__main__":
    unittest.main()
