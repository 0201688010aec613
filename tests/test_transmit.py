"""Transmit."""

import unittest

from tests.bus import (ALL, BUSY, CONTROL, OWN, OWN_FAULT, SERVICE, SILENCE, SUBSYSTEM_FAULT, TO_TRANSMIT, TRANSMIT,
                       allow, command, flags, forbid, give, mode, output_after, say, seen_after, sent, status, tick)


class Transmit(unittest.TestCase):
    def test_each_count(self):
        row = [300 + place for place in range(32)]
        for count in range(32):
            size = 32 if count == 0 else count
            self.assertEqual(output_after(give(6, row), say(0, OWN, TRANSMIT, 6, count)),
                             sent(status(), *row[:size]))

    def test_0_behind_what_is_given(self):
        for size in (0, 1, 2, 31):
            row = [300 + place for place in range(size)]
            self.assertEqual(output_after(give(6, row), say(0, OWN, TRANSMIT, 6, 0)),
                             sent(status(), *row, *[0] * (32 - size)))

    def test_each_sub(self):
        for sub in range(1, 31):
            self.assertEqual(output_after(say(0, OWN, TRANSMIT, sub, 2)), sent(status(), 0, 0))

    def test_nothing_is_awaited_behind_it(self):
        seen = seen_after(say(0, OWN, TRANSMIT, 1, 1), tick(500))
        self.assertEqual((seen.errors, seen.messages), (0, 0))

    def test_to_all_is_a_counted_error_and_nothing_is_sent(self):
        calls = (say(0, ALL, TRANSMIT, 1, 1), tick(500))
        self.assertEqual(output_after(*calls), SILENCE)
        seen = seen_after(*calls)
        self.assertEqual((seen.error, seen.errors, seen.last_status), (1, 1, 0))
        self.assertEqual(output_after(*calls, mode(600, 18)),
                         sent(status(error=1, to_all=1), command(ALL, TRANSMIT, 1, 1)))

    def answered(self, *calls):
        return output_after(give(6, [1, 2, 3]), *calls, say(0, OWN, TRANSMIT, 6, 3))

    def test_busy_sends_the_status_alone(self):
        self.assertEqual(self.answered(flags(BUSY)), sent(status(busy=1)))
        self.assertEqual(self.answered(flags(BUSY), flags(0)), sent(status(), 1, 2, 3))

    def test_the_other_flags_keep_nothing_from_being_sent(self):
        for value in (SERVICE, SUBSYSTEM_FAULT, OWN_FAULT, CONTROL, 31 ^ BUSY):
            self.assertEqual(self.answered(flags(value))[0], 4)

    def test_busy_to_all_is_a_counted_error_as_ever(self):
        seen = seen_after(flags(BUSY), say(0, ALL, TRANSMIT, 6, 3))
        self.assertEqual((seen.error, seen.errors, seen.to_send), (1, 1, []))

    def test_not_allowed_sends_the_status_alone_with_error(self):
        self.assertEqual(self.answered(forbid(TO_TRANSMIT, 6, 3)), sent(status(error=1)))
        seen = seen_after(forbid(TO_TRANSMIT, 6, 3), say(0, OWN, TRANSMIT, 6, 3))
        self.assertEqual((seen.error, seen.errors, seen.messages), (1, 0, 0))

    def test_not_allowed_goes_before_busy(self):
        self.assertEqual(self.answered(flags(BUSY), forbid(TO_TRANSMIT, 6, 3)), sent(status(error=1, busy=1)))

    def test_each_what_and_sub_has_its_own_allowance(self):
        for what in range(5):
            for sub in range(32 if what < 3 else 1):
                answer = sent(status(error=1)) if (what, sub) == (TO_TRANSMIT, 6) else sent(status(), 1, 2, 3)
                self.assertEqual(self.answered(allow(what, sub, 0)), answer)

    def test_each_count_has_its_own_bit(self):
        for count in range(32):
            asked = say(0, OWN, TRANSMIT, 6, count)
            size = 32 if count == 0 else count
            self.assertEqual(output_after(allow(TO_TRANSMIT, 6, 1 << count), asked), sent(status(), *[0] * size))
            self.assertEqual(output_after(forbid(TO_TRANSMIT, 6, count), asked), sent(status(error=1)))


if __name__ == "__main__":
    unittest.main()
