"""Promise 1: begin."""

import unittest

from tests.bus import (ALL, HIGH_MODES, LOW_MODES, OWN, OWN_FAULT, RECEIVE, SILENCE, TRANSMIT, allow, ask, begin, data,
                       flags, get, give, mode, output, output_after, say, seen_after, sent, status, tick, told)


class Addresses(unittest.TestCase):
    def test_addresses_0_to_30_begin(self):
        for address in range(31):
            self.assertEqual(ask(begin(address)), [[0]])

    def test_other_addresses_are_refused(self):
        for address in (-2147483648, -32, -2, -1, 31, 32, 33, 64, 2147483647):
            self.assertEqual(ask(begin(), begin(address)), [[0], [-2]])

    def test_the_address_is_the_one_answered_to(self):
        for address in (0, 1, 15, 30):
            for spoken_to in (0, 1, 15, 29, 30):
                answer = ask(begin(address), say(0, spoken_to, TRANSMIT, 1, 1), output())[-1]
                expected = sent(status(address), 0) if address == spoken_to else SILENCE
                self.assertEqual(answer, expected)


class Refused(unittest.TestCase):
    def test_a_refused_begin_changes_nothing(self):
        rows = ask(begin(3), give(2, [77]), say(0, 3, TRANSMIT, 2, 1), begin(31), output(),
                   begin(-1), say(100, 3, TRANSMIT, 2, 1), output())
        self.assertEqual(rows[4], sent(status(3), 77))
        self.assertEqual(rows[7], sent(status(3), 77))

    def test_a_refused_begin_does_not_stop_the_command(self):
        answer = output_after(say(0, OWN, RECEIVE, 1, 1), begin(31), data(4, 20))
        self.assertEqual(answer, sent(status()))


class Again(unittest.TestCase):
    def test_what_was_given_is_gone(self):
        self.assertEqual(output_after(give(2, [77]), begin(), say(0, OWN, TRANSMIT, 2, 1)), sent(status(), 0))

    def test_what_was_to_be_sent_is_gone(self):
        self.assertEqual(output_after(say(0, OWN, TRANSMIT, 2, 1), begin()), SILENCE)

    def test_the_command_that_went_on_is_gone(self):
        seen = seen_after(say(0, OWN, RECEIVE, 1, 1), begin(), data(4, 20), tick(1000))
        self.assertEqual((seen.to_send, seen.errors, seen.got[1]), ([], 0, []))

    def test_the_last_command_and_status_are_0(self):
        self.assertEqual(output_after(say(0, OWN, TRANSMIT, 2, 1), begin(), mode(100, 18)), sent(status(), 0))
        self.assertEqual(output_after(say(0, OWN, TRANSMIT, 2, 1), begin(), mode(100, 2)), sent(0))

    def test_error_and_to_all_are_0(self):
        answer = output_after(say(0, ALL, TRANSMIT, 2, 1), begin(), mode(100, 18))
        self.assertEqual(answer, sent(status(), 0))

    def test_the_address_is_the_new_one(self):
        rows = ask(begin(3), begin(4), say(0, 3, TRANSMIT, 2, 1), output(), say(90, 4, TRANSMIT, 2, 1), output())
        self.assertEqual(rows[3], SILENCE)
        self.assertEqual(rows[5], sent(status(4), 0))


class AgainAfterAll(unittest.TestCase):
    """All that the calls can change is changed, then begin comes again."""

    COUNTED = (say(0, OWN, RECEIVE, 1, 1), data(4, 20), say(100, ALL, TRANSMIT, 1, 1), mode(200, 4), mode(300, 6),
               mode(400, 17, transmit=0), data(9, 420), mode(500, 9))
    ALLOWED = tuple(allow(what, sub, 0) for what in range(3) for sub in range(32)) + (
        allow(LOW_MODES, 0, 0xFE00), allow(HIGH_MODES, 0, 0xFFC00000))
    GIVEN = tuple(give(sub, [40 + sub]) for sub in range(32))
    CHANGES = COUNTED + GIVEN + ALLOWED + (flags(31), say(600, OWN, RECEIVE, 1, 2), data(5, 620))

    def looks(self):
        """Each shows something that the changes have changed."""
        for sub in range(1, 31):
            yield [say(1000, OWN, TRANSMIT, sub, 1), output()]
            for address in (OWN, ALL):
                yield [say(1000, address, RECEIVE, sub, 1), data(3, 1020), get(sub)]
        for code in (0, 1, 2, 3, 4, 5, 6, 7, 8, 9, 15, 16, 18, 19):
            yield [mode(1000, code), output()]
        for code in (17, 20, 21):
            yield [mode(1000, code, transmit=0), data(1, 1020), output()]
        yield [told()]
        yield [output()]
        yield [get(1)]
        yield [data(6, 640), output()]
        yield [tick(5000), told()]

    def test_all_is_as_at_the_beginning(self):
        for look in self.looks():
            fresh = ask(begin(), *look)[-1]
            self.assertNotEqual(ask(begin(), *self.CHANGES, *look)[-1], fresh, look)
            self.assertEqual(ask(begin(), *self.CHANGES, begin(), *look)[-1], fresh, look)

    def test_a_refused_begin_leaves_all_as_it_is(self):
        for look in self.looks():
            changed = ask(begin(), *self.CHANGES, *look)[-1]
            for address in (-1, 31):
                self.assertEqual(ask(begin(), *self.CHANGES, begin(address), *look)[-1], changed, look)

    def test_the_hushed_fault_is_not_hushed_any_more(self):
        answer = output_after(mode(0, 6), begin(), flags(OWN_FAULT), mode(100, 1))
        self.assertEqual(answer, sent(status(fault=1)))

    def test_error_and_to_all_are_0(self):
        seen = seen_after(*self.CHANGES, begin())
        self.assertEqual((seen.error, seen.to_all, seen.hushed), (0, 0, 0))
        self.assertEqual(seen, seen_after())


if __name__ == "__main__":
    unittest.main()
