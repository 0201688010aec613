"""Promise 5, its part on allow, and what is allowed."""

import unittest

from tests.bus import (ALL, EVERY_COUNT, HIGH_MODES, LOW_MODES, OWN, RECEIVE, TO_RECEIVE, TO_RECEIVE_TO_ALL,
                       TO_TRANSMIT, TRANSMIT, allow, ask, begin, data, data_row, forbid, mode, output_after, say,
                       seen_after, sent, status, told_after)

WRONG = (-2147483648, -33, -32, -31, -5, -1, 32, 33, 2147483647)

# For each what a sub and a count that it is asked for, and the calls that ask for it.
ASKED = {
    TO_RECEIVE: (6, 2, (say(0, OWN, RECEIVE, 6, 2), *data_row([1, 2], 0))),
    TO_TRANSMIT: (6, 2, (say(0, OWN, TRANSMIT, 6, 2),)),
    TO_RECEIVE_TO_ALL: (6, 2, (say(0, ALL, RECEIVE, 6, 2), *data_row([1, 2], 0))),
    LOW_MODES: (0, 3, (mode(0, 3),)),
    HIGH_MODES: (0, 16, (mode(0, 16),)),
}


def is_error(*calls):
    seen = seen_after(*calls)
    assert seen.errors == 0
    return seen.error


def taking(code):
    return (mode(0, code, transmit=0), data(1, 20))


class Answers(unittest.TestCase):
    def test_whats_0_to_2_take_each_sub(self):
        for what in (0, 1, 2):
            for sub in range(32):
                for counts in (0, 1, 0x80000000, EVERY_COUNT):
                    self.assertEqual(ask(begin(), allow(what, sub, counts)), [[0], [0]])

    def test_whats_3_and_4_take_sub_0_alone(self):
        for what in (3, 4):
            for counts in (0, 1, 0x80000000, EVERY_COUNT):
                self.assertEqual(ask(begin(), allow(what, 0, counts)), [[0], [0]])
            for sub in list(range(1, 32)) + list(WRONG):
                self.assertEqual(ask(begin(), allow(what, sub, 0)), [[0], [-2]])

    def test_other_subs_are_refused(self):
        for what in (0, 1, 2):
            for sub in WRONG:
                self.assertEqual(ask(begin(), allow(what, sub, 0)), [[0], [-2]])

    def test_other_whats_are_refused(self):
        for what in (-2147483648, -5, -4, -2, -1, 5, 6, 31, 2147483647):
            for sub in (-1, 0, 1, 31, 32):
                self.assertEqual(ask(begin(), allow(what, sub, 0)), [[0], [-2]])

    def test_a_refused_call_changes_nothing(self):
        refused = [allow(what, sub, 0) for what in range(5) for sub in WRONG]
        refused += [allow(what, sub, 0) for what in (3, 4) for sub in range(1, 32)]
        refused += [allow(what, sub, 0) for what in (-5, -4, -3, -2, -1, 5) for sub in (0, 6)]
        for what in range(5):
            self.assertEqual(is_error(*refused, *ASKED[what][2]), 0)

    def test_it_sends_and_stops_nothing(self):
        calls = [allow(what, 0, 0) for what in range(5)]
        self.assertEqual(told_after(*calls), told_after())
        self.assertEqual(output_after(*calls), [0])
        seen = seen_after(say(0, OWN, RECEIVE, 1, 2), data(1, 20), *calls, data(2, 40))
        self.assertEqual((seen.got[1], seen.messages, seen.errors), ([1, 2], 1, 0))


class AtTheBeginning(unittest.TestCase):
    def test_each_receive_and_transmit_is_allowed(self):
        for sub in range(1, 31):
            for count in range(32):
                row = data_row(range(32 if count == 0 else count), 0)
                self.assertEqual(is_error(say(0, OWN, RECEIVE, sub, count), *row), 0)
                self.assertEqual(is_error(say(0, ALL, RECEIVE, sub, count), *row), 0)
                self.assertEqual(is_error(say(0, OWN, TRANSMIT, sub, count)), 0)

    def test_of_mode_codes_below_16_those_to_8(self):
        self.assertEqual([is_error(mode(0, code)) for code in range(16)], [0] * 9 + [1] * 7)

    def test_of_those_from_16_on_those_to_21(self):
        self.assertEqual([is_error(mode(0, code)) for code in (16, 18, 19)], [0] * 3)
        self.assertEqual([is_error(*taking(code)) for code in (17, 20, 21)], [0] * 3)


class EachWhat(unittest.TestCase):
    def test_what_is_not_allowed_is_an_error_that_is_not_counted(self):
        for what, (sub, count, calls) in ASKED.items():
            self.assertEqual(is_error(forbid(what, sub, count), *calls), 1)
            self.assertEqual(is_error(allow(what, sub, 0), *calls), 1)

    def test_it_is_the_bit_of_the_count(self):
        for what, (sub, count, calls) in ASKED.items():
            for bit in range(32):
                self.assertEqual(is_error(allow(what, sub, 1 << bit), *calls), 0 if bit == count else 1)
                self.assertEqual(is_error(forbid(what, sub, bit), *calls), 1 if bit == count else 0)

    def test_another_what_or_sub_makes_no_odds(self):
        for what, (sub, count, calls) in ASKED.items():
            others = [allow(other, place, 0) for other in range(5) for place in range(32)
                      if (other, place) != (what, sub) and (other < 3 or place == 0)]
            self.assertEqual(is_error(*others, *calls), 0)

    def test_new_counts_take_the_place_of_those_before(self):
        for what, (sub, count, calls) in ASKED.items():
            self.assertEqual(is_error(allow(what, sub, 0), allow(what, sub, 1 << count), *calls), 0)
            self.assertEqual(is_error(allow(what, sub, 1 << count), allow(what, sub, 1 << 31), *calls), 1)

    def test_they_stay_until_they_are_set_again(self):
        for what, (sub, count, calls) in ASKED.items():
            self.assertEqual(is_error(forbid(what, sub, count), mode(9000, 1), *calls, mode(7000, 1), *calls), 1)

    def test_what_is_sent_by_what_is_not_allowed(self):
        for what, (sub, count, calls) in ASKED.items():
            answer = [0] if what == TO_RECEIVE_TO_ALL else sent(status(error=1))
            self.assertEqual(output_after(forbid(what, sub, count), *calls), answer)

    def test_error_is_gone_by_the_next_command(self):
        for what, (sub, count, calls) in ASKED.items():
            self.assertEqual(output_after(forbid(what, sub, count), *calls, mode(9000, 1)), sent(status()))


class Modes(unittest.TestCase):
    def test_subs_0_and_31_are_asked_alike(self):
        for sub in (0, 31):
            for code in range(16):
                self.assertEqual(is_error(forbid(LOW_MODES, 0, code), mode(0, code, sub=sub)), 1)
                self.assertEqual(is_error(allow(LOW_MODES, 0, 1 << code), mode(0, code, sub=sub)), 0)

    def test_codes_16_to_21_each_by_its_bit(self):
        for code in (16, 18, 19):
            self.assertEqual(output_after(forbid(HIGH_MODES, 0, code), mode(0, code)), sent(status(error=1)))
            self.assertEqual(output_after(allow(HIGH_MODES, 0, 1 << code), mode(0, code)), sent(status(), 0))
        for code in (17, 20, 21):
            self.assertEqual(output_after(forbid(HIGH_MODES, 0, code), *taking(code)), sent(status(error=1)))
            self.assertEqual(output_after(allow(HIGH_MODES, 0, 1 << code), *taking(code)), sent(status()))

    def test_mode_commands_are_not_asked_for_what_0_to_2(self):
        forbidden = [allow(what, sub, 0) for what in range(3) for sub in (0, 31)]
        for sub in (0, 31):
            self.assertEqual(is_error(*forbidden, mode(0, 3, sub=sub)), 0)
            self.assertEqual(is_error(*forbidden, mode(0, 16, sub=sub)), 0)
            self.assertEqual(is_error(*forbidden, mode(0, 17, transmit=0, sub=sub), data(1, 20)), 0)
            self.assertEqual(is_error(*forbidden, mode(0, 1, ALL, sub=sub)), 0)

    def test_codes_0_and_2_to_all_are_an_error_even_if_allowed(self):
        for code in (0, 2):
            self.assertEqual(is_error(allow(LOW_MODES, 0, EVERY_COUNT), mode(0, code, ALL)), 1)

    def test_codes_16_18_and_19_to_all_are_an_error_even_if_allowed(self):
        for code in (16, 18, 19):
            self.assertEqual(is_error(allow(HIGH_MODES, 0, EVERY_COUNT), mode(0, code, ALL)), 1)

    def test_a_transmit_to_all_is_a_counted_error_even_if_allowed(self):
        seen = seen_after(allow(TO_TRANSMIT, 1, EVERY_COUNT), say(0, ALL, TRANSMIT, 1, 1))
        self.assertEqual((seen.error, seen.errors), (1, 1))
        seen = seen_after(allow(TO_TRANSMIT, 1, 0), say(0, ALL, TRANSMIT, 1, 1))
        self.assertEqual((seen.error, seen.errors), (1, 1))


if __name__ == "__main__":
    unittest.main()
