"""Promise 5, its part on flags, and the bits of a status."""

import unittest

from tests.bus import (ALL, BUSY, CONTROL, OWN, OWN_FAULT, RECEIVE, SERVICE, SUBSYSTEM_FAULT, TRANSMIT, ask, begin,
                       data, flags, forbid, give, mode, output, output_after, say, seen_after, sent, status,
                       told_after)

WRONG_FLAGS = (-2147483648, -32, -31, -2, -1, 32, 33, 63, 64, 2147483647)


def status_by(value, code=3):
    """The status, in plain numbers without the address, that a mode code sends by these flags."""
    return (output_after(flags(value), mode(0, code))[1] & 65535) - 5 * 2048


class Answers(unittest.TestCase):
    def test_flags_0_to_31_are_taken(self):
        for value in range(32):
            self.assertEqual(ask(begin(), flags(value)), [[0], [0]])

    def test_others_are_refused(self):
        for value in WRONG_FLAGS:
            self.assertEqual(ask(begin(), flags(value)), [[0], [-2]])

    def test_a_refused_value_changes_nothing(self):
        refused = [flags(value) for value in WRONG_FLAGS]
        for value in range(32):
            self.assertEqual(output_after(flags(value), *refused, mode(0, 0)), output_after(flags(value), mode(0, 0)))


class Bits(unittest.TestCase):
    def test_none_at_the_beginning(self):
        self.assertEqual(output_after(mode(0, 3)), sent(5 * 2048))

    def test_each_flag_has_its_bit(self):
        self.assertEqual([status_by(value) for value in (0, 1, 2, 4, 8, 16)], [0, 8, 256, 4, 1, 0])

    def test_control_has_its_bit_by_mode_code_0_alone(self):
        self.assertEqual([status_by(value, code=0) for value in (0, 1, 2, 4, 8, 16)], [0, 8, 256, 4, 1, 2])
        self.assertEqual([status_by(16, code=code) for code in (1, 3, 4, 5, 6, 7, 8)], [0] * 7)

    def test_all_together(self):
        for value in range(32):
            bits = sum(place for flag, place in ((1, 8), (2, 256), (4, 4), (8, 1)) if value & flag)
            self.assertEqual(status_by(value), bits)
            self.assertEqual(status_by(value, code=0), bits + (2 if value & 16 else 0))

    def test_with_error_and_to_all(self):
        self.assertEqual(output_after(flags(15), mode(0, 9)), sent(5 * 2048 + 1024 + 269))
        to_all = (flags(15), say(0, ALL, TRANSMIT, 1, 1), mode(100, 18))
        self.assertEqual(output_after(*to_all)[1] & 65535, 5 * 2048 + 1024 + 16 + 269)

    def test_a_hushed_fault_is_not_shown_and_the_others_are(self):
        self.assertEqual(output_after(mode(0, 6), flags(OWN_FAULT), mode(100, 3)), sent(status()))
        self.assertEqual(output_after(mode(0, 6), flags(15), mode(100, 3)),
                         sent(status(service=1, busy=1, subsystem=1)))
        self.assertEqual(output_after(mode(0, 6), flags(31), mode(100, 0)),
                         sent(status(service=1, busy=1, subsystem=1, control=1)))

    def test_every_status_has_them(self):
        bits = status(service=1, subsystem=1, fault=1)
        set_flags = flags(SERVICE | SUBSYSTEM_FAULT | OWN_FAULT)
        for calls in ((say(0, OWN, TRANSMIT, 1, 1),), (say(0, OWN, RECEIVE, 1, 1), data(1, 20)), (mode(0, 1),),
                      (mode(0, 16),), (mode(0, 18),), (mode(0, 19),), (mode(0, 17, transmit=0), data(1, 20)),
                      (mode(0, 20, transmit=0), data(1, 20))):
            self.assertEqual(output_after(set_flags, *calls)[1] & 65535, bits)


class Times(unittest.TestCase):
    def test_they_stay_until_they_are_set_again(self):
        rows = ask(begin(), flags(SERVICE), mode(0, 3), output(), mode(100, 3), output(), flags(0), mode(200, 3),
                   output())
        self.assertEqual([rows[3], rows[5]], [sent(status(service=1))] * 2)
        self.assertEqual(rows[8], sent(status()))

    def test_new_ones_take_the_place_of_all_before(self):
        self.assertEqual(output_after(flags(SERVICE), flags(OWN_FAULT), mode(0, 3)), sent(status(fault=1)))

    def test_the_answer_has_those_of_when_it_was_made(self):
        self.assertEqual(output_after(mode(0, 3), flags(31)), sent(status()))
        self.assertEqual(output_after(flags(SERVICE), mode(0, 3), flags(0)), sent(status(service=1)))

    def test_a_receive_asks_for_them_at_its_end(self):
        self.assertEqual(output_after(say(0, OWN, RECEIVE, 1, 1), flags(SERVICE), data(1, 20)),
                         sent(status(service=1)))

    def test_no_flag_is_used_up_by_a_status(self):
        rows = ask(begin(), flags(31), mode(0, 0), output(), mode(100, 0), output())
        self.assertEqual(rows[3], rows[5])

    def test_they_send_and_stop_nothing(self):
        seen = seen_after(say(0, OWN, RECEIVE, 1, 2), data(1, 20), flags(BUSY), flags(0), data(2, 40))
        self.assertEqual((seen.got[1], seen.messages, seen.errors), ([1, 2], 1, 0))
        self.assertEqual(told_after(flags(31)), told_after())
        self.assertEqual(output_after(flags(31)), [0])


class Busy(unittest.TestCase):
    """Each place where busy plays a part, and each where it plays none."""

    def test_receive_gets_nothing(self):
        for address, answer in ((OWN, sent(status(busy=1))[1:]), (ALL, [])):
            seen = seen_after(flags(BUSY), say(0, address, RECEIVE, 1, 1), data(1, 20))
            self.assertEqual((seen.got[1], seen.messages, seen.error, seen.to_send), ([], 0, 0, answer))

    def test_transmit_and_codes_16_and_19_send_the_status_alone(self):
        given = [give(sub, [7]) for sub in range(32)]
        for asked in (say(0, OWN, TRANSMIT, 1, 1), mode(0, 16), mode(0, 19), mode(0, 16, sub=31), mode(0, 19, sub=31)):
            self.assertEqual(output_after(*given, flags(BUSY), asked), sent(status(busy=1)))
            self.assertEqual(output_after(*given, flags(31 ^ BUSY ^ CONTROL), asked),
                             sent(status(service=1, subsystem=1, fault=1), 7))

    def test_code_18_sends_its_word(self):
        self.assertEqual(output_after(flags(BUSY), mode(0, 18)), sent(status(busy=1), 0))

    def test_code_2_sends_the_last_status_as_it_was(self):
        self.assertEqual(output_after(mode(0, 3), flags(BUSY), mode(100, 2)), sent(status()))
        self.assertEqual(output_after(flags(BUSY), mode(0, 3), flags(0), mode(100, 2)), sent(status(busy=1)))

    def test_no_mode_code_is_kept_from_being_done(self):
        seen = seen_after(flags(BUSY), mode(0, 17, transmit=0), data(6, 20), mode(100, 20, transmit=0), data(1, 120))
        self.assertEqual((seen.step, seen.other_wire_off), (6, 1))
        self.assertEqual(output_after(flags(BUSY | CONTROL), mode(0, 0)), sent(status(busy=1, control=1)))

    def test_it_is_no_error(self):
        for calls in ((say(0, OWN, TRANSMIT, 1, 1),), (say(0, OWN, RECEIVE, 1, 1), data(1, 20)), (mode(0, 16),)):
            seen = seen_after(flags(BUSY), *calls)
            self.assertEqual((seen.error, seen.errors), (0, 0))

    def test_not_allowed_is_an_error_as_well(self):
        self.assertEqual(output_after(flags(BUSY), forbid(1, 1, 1), say(0, OWN, TRANSMIT, 1, 1)),
                         sent(status(error=1, busy=1)))


if __name__ == "__main__":
    unittest.main()
