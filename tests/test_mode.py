"""The mode commands."""

import unittest

from tests.bus import (ALL, BUSY, CONTROL, EVERY_COUNT, HIGH_MODES, LOW_MODES, OWN, OWN_FAULT, RECEIVE, SILENCE,
                       TRANSMIT, allow, ask, begin, command, data, flags, forbid, give, mode, output, output_after,
                       say, seen_after, sent, status, tick, word)

# Behind these everything that a mode command changes is not as at the beginning.
CHANGED = (mode(0, 17, transmit=0), data(300, 20), mode(100, 4), mode(200, 6), output())


def kept(seen):
    return (seen.step, seen.other_wire_off, seen.hushed)


def statuses(codes, *calls):
    """The status that each of the mode codes sends, behind the calls."""
    asked = []
    for place, code in enumerate(codes):
        asked += [mode(1000 + 100 * place, code), output()]
    rows = ask(begin(), *calls, *asked)[1 + len(calls):]
    return [row[1] & 65535 for row in rows[1::2]]


class LowCodes(unittest.TestCase):
    def test_codes_0_to_8_send_the_status(self):
        for sub in (0, 31):
            for code in (0, 1, 3, 4, 5, 6, 7, 8):
                self.assertEqual(output_after(mode(0, code, sub=sub)), sent(status()))

    def test_codes_9_to_15_are_not_allowed(self):
        for sub in (0, 31):
            for code in range(9, 16):
                self.assertEqual(output_after(mode(0, code, sub=sub)), sent(status(error=1)))
                self.assertEqual(seen_after(mode(0, code)).errors, 0)

    def test_bit_10_clear_is_an_error(self):
        for sub in (0, 31):
            for code in range(16):
                self.assertEqual(output_after(mode(0, code, transmit=0, sub=sub)), sent(status(error=1)))

    def test_bit_10_clear_does_nothing_and_awaits_nothing(self):
        for code in range(16):
            seen = seen_after(*CHANGED, mode(1000, code, transmit=0), data(7, 1020), tick(5000))
            self.assertEqual(kept(seen), (300, 1, 1))
            self.assertEqual((seen.errors, seen.messages), (0, 0))

    def test_to_all_nothing_is_sent(self):
        for transmit in (0, 1):
            for code in range(16):
                seen = seen_after(mode(0, code, ALL, transmit))
                self.assertEqual((seen.to_send, seen.errors, seen.last_status), ([], 0, 0))

    def test_to_all_codes_0_and_2_are_an_error(self):
        for code in range(16):
            error = 1 if code in (0, 2) or code > 8 else 0
            self.assertEqual(output_after(mode(0, code, ALL), mode(100, 18)),
                             sent(status(error=error, to_all=1), command(ALL, 1, 0, code)))

    def test_what_each_code_does(self):
        done = {1: (0, 1, 1), 5: (300, 0, 1), 7: (300, 1, 0), 8: (300, 0, 0)}
        for address in (OWN, ALL):
            for sub in (0, 31):
                for code in range(16):
                    seen = seen_after(*CHANGED, mode(1000, code, address, sub=sub))
                    self.assertEqual(kept(seen), done.get(code, (300, 1, 1)))
                self.assertEqual(kept(seen_after(mode(0, 4, address, sub=sub))), (0, 1, 0))
                self.assertEqual(kept(seen_after(mode(0, 6, address, sub=sub))), (0, 0, 1))

    def test_the_hushed_fault_is_gone_from_this_very_status(self):
        self.assertEqual(statuses((1, 6, 1, 7, 6, 8), flags(OWN_FAULT)),
                         [status(fault=fault) for fault in (1, 0, 0, 1, 0, 1)])

    def test_a_fault_that_comes_while_it_is_hushed_is_not_shown(self):
        self.assertEqual(statuses((1, 7), mode(0, 6), flags(0), flags(OWN_FAULT)), [status(), status(fault=1)])

    def test_the_fault_is_hushed_by_a_command_to_all_too(self):
        self.assertEqual(statuses((3,), flags(OWN_FAULT), mode(0, 6, ALL)), [status()])
        self.assertEqual(statuses((3,), flags(OWN_FAULT), mode(0, 6), mode(100, 7, ALL)), [status(fault=1)])
        self.assertEqual(statuses((3,), flags(OWN_FAULT), mode(0, 6), mode(100, 8, ALL)), [status(fault=1)])

    def test_the_fault_is_hushed_in_the_status_of_other_commands(self):
        for calls in ((say(300, OWN, TRANSMIT, 1, 1),), (say(300, OWN, RECEIVE, 1, 1), data(1, 320)),
                      (mode(300, 17, transmit=0), data(1, 320)), (mode(300, 16),), (mode(300, 18),)):
            for hushing, fault in ((6, 0), (7, 1)):
                answer = output_after(flags(OWN_FAULT), mode(0, hushing), *calls)
                self.assertEqual(answer[1] & 65535, status(fault=fault))

    def test_control_is_taken_if_flags_let_it_in_this_status_alone(self):
        self.assertEqual(statuses((0,)), [status()])
        self.assertEqual(statuses((0,), flags(31 ^ CONTROL ^ BUSY)), [status(service=1, subsystem=1, fault=1)])
        self.assertEqual(statuses((1, 0, 1, 18, 0, 2, 3), flags(CONTROL)),
                         [status(control=control) for control in (0, 1, 0, 0, 1, 1, 0)])
        self.assertEqual(statuses((0,), flags(CONTROL), flags(0)), [status()])

    def test_control_is_not_taken_by_another_command(self):
        self.assertEqual(statuses((1, 3, 4, 5, 6, 7, 8, 16, 18, 19), flags(CONTROL)), [status()] * 10)
        self.assertEqual(output_after(flags(CONTROL), say(0, OWN, TRANSMIT, 1, 1)), sent(status(), 0))
        self.assertEqual(output_after(flags(CONTROL), say(0, OWN, RECEIVE, 1, 1), data(1, 20)), sent(status()))

    def test_control_is_taken_while_busy(self):
        self.assertEqual(statuses((0,), flags(CONTROL | BUSY)), [status(busy=1, control=1)])

    def test_control_is_not_taken_if_it_is_not_in_order(self):
        self.assertEqual(output_after(flags(CONTROL), mode(0, 0, transmit=0)), sent(status(error=1)))
        self.assertEqual(output_after(flags(CONTROL), mode(0, 0, ALL)), SILENCE)
        self.assertEqual(output_after(flags(CONTROL), mode(0, 0, ALL), mode(100, 18)),
                         sent(status(error=1, to_all=1), command(ALL, 1, 0, 0)))
        self.assertEqual(statuses((0,), flags(CONTROL), forbid(LOW_MODES, 0, 0)), [status(error=1)])

    def test_busy_keeps_no_code_from_being_done(self):
        self.assertEqual(kept(seen_after(*CHANGED, flags(BUSY), mode(1000, 1), mode(1100, 8))), (0, 0, 0))
        self.assertEqual(kept(seen_after(flags(BUSY), mode(0, 4), mode(100, 6))), (0, 1, 1))
        self.assertEqual(statuses((0, 1, 3, 4, 5, 6, 7, 8), flags(BUSY)), [status(busy=1)] * 8)

    def test_not_allowed_does_nothing_and_sends_the_status_with_error(self):
        for sub in (0, 31):
            for code in range(16):
                calls = (forbid(LOW_MODES, 0, code), mode(1000, code, sub=sub))
                seen = seen_after(*CHANGED, *calls)
                self.assertEqual((kept(seen), seen.error, seen.errors), ((300, 1, 1), 1, 0))
                self.assertEqual(seen.to_send, sent(status(error=1))[1:])
                self.assertEqual(kept(seen_after(*calls)), (0, 0, 0))

    def test_not_allowed_to_all_does_nothing_and_sends_nothing(self):
        for code in range(16):
            seen = seen_after(*CHANGED, forbid(LOW_MODES, 0, code), mode(1000, code, ALL))
            self.assertEqual((kept(seen), seen.error, seen.errors, seen.to_send), ((300, 1, 1), 1, 0, []))

    def test_each_code_has_its_own_bit(self):
        for code in range(16):
            self.assertEqual(output_after(allow(LOW_MODES, 0, 1 << code), mode(0, code, sub=31))[1] & 1024, 0)
            for other in range(16):
                if other != code:
                    self.assertEqual(output_after(allow(LOW_MODES, 0, 1 << code), mode(0, other)),
                                     sent(status(error=1)))

    def test_codes_from_16_on_have_no_bit_here(self):
        for code in range(16):
            self.assertEqual(output_after(allow(LOW_MODES, 0, 1 << (code + 16)), mode(0, code)), sent(status(error=1)))
            self.assertEqual(output_after(allow(HIGH_MODES, 0, EVERY_COUNT), allow(LOW_MODES, 0, 0), mode(0, code)),
                             sent(status(error=1)))

    def test_codes_9_to_15_do_nothing_where_they_are_allowed(self):
        for code in range(9, 16):
            for address in (OWN, ALL):
                seen = seen_after(*CHANGED, allow(LOW_MODES, 0, 1 << code), mode(1000, code, address))
                self.assertEqual((kept(seen), seen.error), ((300, 1, 1), 0))
                self.assertEqual(seen.last_status, status())
                seen = seen_after(allow(LOW_MODES, 0, 1 << code), mode(1000, code, address))
                self.assertEqual((kept(seen), seen.error), ((0, 0, 0), 0))


class LastStatus(unittest.TestCase):
    def test_it_is_0_before_a_status_is_sent(self):
        self.assertEqual(output_after(mode(0, 2)), [1, 0x20000])

    def test_it_is_sent_again_as_it_was(self):
        self.assertEqual(output_after(mode(0, 9), mode(100, 2)), sent(status(error=1)))
        self.assertEqual(output_after(mode(0, 9), mode(100, 1), mode(200, 2)), sent(status()))
        self.assertEqual(output_after(mode(0, 1), mode(100, 2), mode(200, 2)), sent(status()))

    def test_it_is_of_sub_31_too(self):
        self.assertEqual(output_after(mode(0, 9), mode(100, 2, sub=31)), sent(status(error=1)))

    def test_it_is_the_one_sent_not_one_that_would_be(self):
        told = output_after(say(0, OWN, TRANSMIT, 1, 1), say(100, ALL, TRANSMIT, 1, 1), mode(200, 2))
        self.assertEqual(told, sent(status()))
        self.assertEqual(output_after(mode(0, 1), flags(31), mode(100, 2)), sent(status()))
        self.assertEqual(output_after(flags(15), mode(0, 1), flags(0), mode(100, 2)),
                         sent(status(service=1, busy=1, subsystem=1, fault=1)))

    def test_it_is_sent_though_it_was_not_fetched(self):
        told = ask(begin(), say(0, OWN, TRANSMIT, 1, 2), mode(100, 2), output(), output())
        self.assertEqual(told[3:], [sent(status()), SILENCE])

    def test_not_in_order_the_status_is_sent_with_error(self):
        self.assertEqual(output_after(mode(0, 1), mode(100, 2, transmit=0)), sent(status(error=1)))
        self.assertEqual(output_after(mode(0, 1), forbid(LOW_MODES, 0, 2), mode(100, 2)), sent(status(error=1)))


class SendingCodes(unittest.TestCase):
    def test_code_16_sends_the_first_given_for_sub_0(self):
        for sub in (0, 31):
            self.assertEqual(output_after(give(0, [8, 9]), give(31, [7]), mode(0, 16, sub=sub)), sent(status(), 8))
            self.assertEqual(output_after(give(31, [7]), mode(0, 16, sub=sub)), sent(status(), 0))

    def test_code_19_sends_the_first_given_for_sub_31(self):
        for sub in (0, 31):
            self.assertEqual(output_after(give(31, [8, 9]), give(0, [7]), mode(0, 19, sub=sub)), sent(status(), 8))
            self.assertEqual(output_after(give(0, [7]), mode(0, 19, sub=sub)), sent(status(), 0))

    def test_code_18_sends_the_last_command(self):
        for sub in (0, 31):
            told = output_after(say(0, OWN, TRANSMIT, 3, 4), mode(100, 18, sub=sub))
            self.assertEqual(told, sent(status(), command(OWN, TRANSMIT, 3, 4)))

    def test_to_all_is_an_error_and_nothing_is_sent(self):
        for code in (16, 18, 19):
            self.assertEqual(output_after(give(0, [8]), mode(0, code, ALL)), SILENCE)
            seen = seen_after(mode(0, code, ALL))
            self.assertEqual((seen.error, seen.to_all, seen.errors), (1, 1, 0))

    def test_bit_10_clear_is_an_error(self):
        for code in (16, 18, 19):
            self.assertEqual(output_after(give(0, [8]), mode(0, code, transmit=0)), sent(status(error=1)))

    def test_busy_sends_the_status_alone_but_of_code_18(self):
        given = (give(0, [8]), give(31, [9]), mode(0, 3), flags(BUSY))
        self.assertEqual(output_after(*given, mode(100, 16)), sent(status(busy=1)))
        self.assertEqual(output_after(*given, mode(100, 18)), sent(status(busy=1), command(OWN, 1, 0, 3)))
        self.assertEqual(output_after(*given, mode(100, 19)), sent(status(busy=1)))

    def test_not_allowed_sends_the_status_alone_with_error(self):
        for sub in (0, 31):
            for code in (16, 18, 19):
                calls = (give(0, [8]), give(31, [9]), forbid(HIGH_MODES, 0, code), mode(0, code, sub=sub))
                self.assertEqual(output_after(*calls), sent(status(error=1)))
                self.assertEqual(output_after(flags(BUSY), *calls), sent(status(error=1, busy=1)))
                self.assertEqual(seen_after(*calls).errors, 0)

    def test_not_allowed_to_all_nothing_is_sent(self):
        for code in (16, 18, 19):
            seen = seen_after(forbid(HIGH_MODES, 0, code), mode(0, code, ALL))
            self.assertEqual((seen.error, seen.errors, seen.to_send), (1, 0, []))

    def test_each_code_has_its_own_bit(self):
        for code in (16, 18, 19):
            self.assertEqual(output_after(allow(HIGH_MODES, 0, 1 << code), mode(0, code)), sent(status(), 0))
            self.assertEqual(output_after(allow(LOW_MODES, 0, 0), mode(0, code)), sent(status(), 0))
            self.assertEqual(output_after(allow(LOW_MODES, 0, EVERY_COUNT), forbid(HIGH_MODES, 0, code), mode(0, code)),
                             sent(status(error=1)))


class TakingCodes(unittest.TestCase):
    def test_the_status_is_sent_when_the_word_has_come(self):
        for sub in (0, 31):
            for code in (17, 20, 21):
                asked = mode(0, code, transmit=0, sub=sub)
                self.assertEqual(output_after(asked), SILENCE)
                self.assertEqual(output_after(asked, data(1, 20)), sent(status()))

    def test_no_message_is_counted_and_nothing_got(self):
        seen = seen_after(mode(0, 17, transmit=0), data(5, 20), tick(500))
        self.assertEqual((seen.messages, seen.errors, seen.got), (0, 0, [[]] * 32))

    def test_what_each_code_does(self):
        for address in (OWN, ALL):
            for value in (0, 1, 2, 3, 65535):
                for code, off, on in ((17, (value, 0, 0), (value, 1, 1)), (20, (0, int(value == 1), 0), (300, 1, 1)),
                                      (21, (0, 0, 0), (300, 0 if value == 1 else 1, 1))):
                    for before, expected in (((), off), (CHANGED, on)):
                        seen = seen_after(*before, mode(1000, code, address, transmit=0), data(value, 1020))
                        self.assertEqual(kept(seen), expected)
                        self.assertEqual((seen.error, seen.errors), (0, 0))

    def test_to_all_nothing_is_sent(self):
        for code in (17, 20, 21):
            self.assertEqual(output_after(mode(0, code, ALL, transmit=0), data(1, 20)), SILENCE)

    def test_the_word_follows(self):
        for gap in (20, 21, 22, 23):
            self.assertEqual(output_after(mode(0, 17, transmit=0), data(5, gap)), sent(status()))
        for gap in (0, 19, 24, 57):
            seen = seen_after(mode(0, 17, transmit=0), data(5, gap), data(6, 20))
            self.assertEqual((seen.step, seen.error, seen.errors, seen.to_send), (0, 1, 1, []))

    def test_a_word_that_is_none_is_a_counted_error(self):
        for wrong in (data(5, 20, good=0), word(0, 5, 20), tick(24)):
            seen = seen_after(mode(0, 17, transmit=0), wrong, data(6, 20))
            self.assertEqual((seen.step, seen.error, seen.errors, seen.to_send), (0, 1, 1, []))

    def test_bit_10_set_is_an_error_at_once(self):
        for code in (17, 20, 21):
            self.assertEqual(output_after(mode(0, code)), sent(status(error=1)))
            seen = seen_after(mode(0, code), data(1, 20), tick(500))
            self.assertEqual((kept(seen), seen.errors), ((0, 0, 0), 0))

    def test_not_allowed_is_an_error_when_the_word_has_come(self):
        for code in (17, 20, 21):
            for address in (OWN, ALL):
                calls = (*CHANGED, mode(300, 3 if code == 21 else 5), forbid(HIGH_MODES, 0, code), output(),
                         mode(1000, code, address, transmit=0))
                before = seen_after(*calls)
                seen = seen_after(*calls, data(1, 1020))
                self.assertEqual((before.error, before.to_send), (0, []))
                self.assertEqual((kept(seen), seen.error, seen.errors), (kept(before), 1, 0))
                self.assertEqual(seen.to_send, sent(status(error=1))[1:] if address == OWN else [])

    def test_it_is_asked_when_the_word_has_come(self):
        asked = mode(0, 17, transmit=0)
        self.assertEqual(output_after(asked, forbid(HIGH_MODES, 0, 17), data(5, 20)), sent(status(error=1)))
        seen = seen_after(forbid(HIGH_MODES, 0, 17), asked, allow(HIGH_MODES, 0, 1 << 17), data(5, 20))
        self.assertEqual((seen.step, seen.last_status), (5, status()))

    def test_the_word_is_awaited_though_it_is_not_allowed(self):
        seen = seen_after(forbid(HIGH_MODES, 0, 17), mode(0, 17, transmit=0), tick(24))
        self.assertEqual((seen.error, seen.errors, seen.to_send), (1, 1, []))

    def test_busy_does_not_keep_it_from_being_done(self):
        seen = seen_after(flags(BUSY), mode(0, 17, transmit=0), data(5, 20))
        self.assertEqual((seen.step, seen.last_status), (5, status(busy=1)))
        seen = seen_after(flags(BUSY), mode(0, 20, transmit=0), data(1, 20))
        self.assertEqual((seen.other_wire_off, seen.last_status), (1, status(busy=1)))


class OtherCodes(unittest.TestCase):
    def test_codes_22_to_31_are_an_error(self):
        for sub in (0, 31):
            for transmit in (0, 1):
                for code in range(22, 32):
                    calls = mode(0, code, transmit=transmit, sub=sub), data(1, 20), tick(500)
                    self.assertEqual(output_after(calls[0]), sent(status(error=1)))
                    self.assertEqual(seen_after(*calls).errors, 0)

    def test_they_are_an_error_even_if_allowed(self):
        every = (allow(LOW_MODES, 0, EVERY_COUNT), allow(HIGH_MODES, 0, EVERY_COUNT))
        for code in range(22, 32):
            for transmit in (0, 1):
                self.assertEqual(output_after(*every, mode(0, code, transmit=transmit)), sent(status(error=1)))

    def test_a_wrong_bit_10_is_an_error_even_if_allowed(self):
        every = allow(HIGH_MODES, 0, EVERY_COUNT)
        for code in (16, 17, 18, 19, 20, 21):
            transmit = 1 if code in (17, 20, 21) else 0
            self.assertEqual(output_after(every, mode(0, code, transmit=transmit)), sent(status(error=1)))

    def test_to_all_nothing_is_sent(self):
        for transmit in (0, 1):
            for code in range(22, 32):
                self.assertEqual(output_after(mode(0, code, ALL, transmit)), SILENCE)
                self.assertEqual(seen_after(mode(0, code, ALL, transmit)).error, 1)

    def test_subs_1_and_30_are_no_mode_commands(self):
        for sub in (1, 30):
            self.assertEqual(output_after(say(0, OWN, TRANSMIT, sub, 1)), sent(status(), 0))
            self.assertEqual(output_after(say(0, OWN, RECEIVE, sub, 31)), SILENCE)


if __name__ == "__main__":
    unittest.main()
