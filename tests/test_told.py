"""Promise 6: told."""

import unittest

from tests.bus import (ALL, BUSY, OTHER, OWN, RECEIVE, TO_RECEIVE, TO_TRANSMIT, TRANSMIT, Told, allow, ask, begin,
                       command, data, data_row, flags, forbid, get, give, mode, output, say, status, tick, told,
                       told_after, word)

# Behind these none of the six numbers is 0, and no two are the same.
BEFORE = (mode(0, 17, transmit=0), data(300, 20), mode(100, 4),
          say(200, OWN, RECEIVE, 1, 1), data(7, 220), say(300, OWN, RECEIVE, 1, 1), data(7, 320),
          say(400, ALL, TRANSMIT, 1, 1), say(500, ALL, TRANSMIT, 1, 1), say(600, ALL, TRANSMIT, 1, 1),
          say(700, OWN, TRANSMIT, 4, 2))
TOLD = Told(status(), command(OWN, TRANSMIT, 4, 2), 300, 1, 2, 3)


def changes(*calls):
    """Which of the six numbers are others than before the calls."""
    after = told_after(*BEFORE, *calls)
    return {name: number for name, number in after._asdict().items() if number != getattr(TOLD, name)}


class Form(unittest.TestCase):
    def test_0_and_six_numbers_that_are_0_at_the_beginning(self):
        self.assertEqual(ask(begin(), told()), [[0], [0, 0, 0, 0, 0, 0, 0]])

    def test_the_order_in_plain_numbers(self):
        self.assertEqual(ask(begin(), *BEFORE, told())[-1], [0, 0x2800, 0x2C82, 300, 1, 2, 3])

    def test_told_changes_nothing(self):
        rows = ask(begin(), *BEFORE, told(), told(), output(), get(1), told())
        self.assertEqual(rows[-5], rows[-4])
        self.assertEqual(rows[-5], rows[-1])
        self.assertEqual(rows[-3][0], 3)
        self.assertEqual(rows[-2], [1, 7])

    def test_told_does_not_stop_a_command(self):
        rows = ask(begin(), say(0, OWN, RECEIVE, 1, 2), told(), data(1, 20), told(), data(2, 40), told(), get(1))
        self.assertEqual([row[5] for row in (rows[2], rows[4], rows[6])], [0, 0, 1])
        self.assertEqual(rows[-1], [2, 1, 2])

    def test_begin_makes_all_0(self):
        self.assertEqual(told_after(*BEFORE, begin()), Told(0, 0, 0, 0, 0, 0))

    def test_a_refused_call_leaves_all(self):
        refused = (begin(31), begin(-1), word(2, command(OWN, 1, 0, 1), 900), word(-1, 0, 900), give(32, [1]),
                   give(-1, [1]), give(1, [1] * 33), get(32), get(-1), flags(32), flags(-1), allow(5, 0, 0),
                   allow(-1, 0, 0), allow(0, 32, 0), allow(0, -1, 0), allow(3, 1, 0), allow(4, 1, 0))
        rows = ask(begin(), *BEFORE, *refused)
        self.assertEqual(rows[1 + len(BEFORE):], [[-2]] * len(refused))
        self.assertEqual(changes(*refused), {})

    def test_calls_that_are_no_words_leave_all(self):
        self.assertEqual(changes(tick(9000), output(), give(1, [1]), get(1), flags(31), allow(0, 1, 0)), {})

    def test_words_that_are_not_looked_at_leave_all(self):
        self.assertEqual(changes(data(9, 720), word(0, command(OWN, 1, 0, 1), 740, good=0),
                                 say(760, OTHER, RECEIVE, 1, 1), data(9, 780), word(0, OTHER << 11, 800)), {})


class LastStatus(unittest.TestCase):
    def last(self, *calls):
        return told_after(*BEFORE, *calls).last_status

    def test_it_is_told_before_it_is_fetched(self):
        self.assertEqual(self.last(flags(2), mode(900, 3)), status(service=1))
        self.assertEqual(self.last(flags(2), mode(900, 3), output()), status(service=1))

    def test_it_is_without_bits_16_and_17(self):
        self.assertEqual(told_after(mode(0, 3)).last_status, 5 * 2048)
        self.assertEqual(ask(begin(0), mode(0, 3, 0), told())[-1][1], 0)
        self.assertEqual(ask(begin(30), mode(0, 9, 30), told())[-1][1], 30 * 2048 + 1024)

    def test_each_command_that_sends_one(self):
        for calls in ((say(900, OWN, TRANSMIT, 1, 1),), (say(900, OWN, RECEIVE, 1, 1), data(1, 920)), (mode(900, 1),),
                      (mode(900, 16),), (mode(900, 18),), (mode(900, 17, transmit=0), data(1, 920))):
            self.assertEqual(self.last(flags(2), *calls), status(service=1))

    def test_each_error_that_sends_one(self):
        for calls in ((mode(900, 9),), (mode(900, 1, transmit=0),), (mode(900, 31),), (mode(900, 17),),
                      (mode(900, 16, transmit=0),), (forbid(TO_TRANSMIT, 1, 1), say(900, OWN, TRANSMIT, 1, 1))):
            self.assertEqual(self.last(*calls), status(error=1))

    def test_what_sends_none_leaves_it(self):
        for calls in ((say(900, ALL, TRANSMIT, 1, 1),), (say(900, ALL, RECEIVE, 1, 1), data(1, 920)),
                      (mode(900, 1, ALL),), (mode(900, 9, ALL),), (mode(900, 18, ALL),), (mode(900, 31, ALL),),
                      (say(900, OWN, RECEIVE, 1, 1),), (say(900, OWN, RECEIVE, 1, 1), data(1, 919)),
                      (say(900, OWN, RECEIVE, 1, 1), tick(924)), (mode(900, 17, transmit=0), tick(924))):
            self.assertEqual(self.last(flags(31), *calls), status())

    def test_mode_code_2_leaves_it(self):
        self.assertEqual(self.last(flags(31), mode(900, 2)), status())
        self.assertEqual(self.last(mode(900, 9), flags(31), mode(1000, 2), mode(1100, 2)), status(error=1))

    def test_mode_code_18_makes_a_new_one(self):
        self.assertEqual(self.last(say(900, ALL, TRANSMIT, 1, 1), mode(1000, 18)), status(error=1, to_all=1))


class LastCommand(unittest.TestCase):
    def last(self, *calls):
        return told_after(*BEFORE, *calls).last_command

    def test_each_command_is_it_as_soon_as_it_begins(self):
        for address in (OWN, ALL):
            for transmit in (0, 1):
                for sub, count in ((1, 0), (30, 31), (1, 2), (1, 18), (0, 0), (31, 1), (0, 9), (0, 16), (31, 17),
                                   (0, 19), (0, 31)):
                    self.assertEqual(self.last(say(900, address, transmit, sub, count)),
                                     command(address, transmit, sub, count))

    def test_mode_codes_2_and_18_leave_it(self):
        for code in (2, 18):
            for sub in (0, 31):
                for transmit in (0, 1):
                    self.assertEqual(self.last(mode(900, code, transmit=transmit, sub=sub)), TOLD.last_command)

    def test_to_all_they_are_it(self):
        for code in (2, 18):
            self.assertEqual(self.last(mode(900, code, ALL)), command(ALL, 1, 0, code))

    def test_it_stays_where_a_command_fails(self):
        asked = command(OWN, RECEIVE, 1, 1)
        for wrong in (data(1, 919), tick(924), data(1, 920, good=0)):
            self.assertEqual(self.last(word(0, asked, 900), wrong), asked)

    def test_what_begins_no_command_leaves_it(self):
        for other in (say(900, OTHER, TRANSMIT, 1, 1), word(0, command(OWN, 1, 0, 1), 900, good=0),
                      data(command(OWN, 1, 0, 1), 900)):
            self.assertEqual(self.last(other), TOLD.last_command)

    def test_the_senders_command_is_not_it(self):
        asked = command(OWN, RECEIVE, 1, 1)
        self.assertEqual(self.last(word(0, asked, 900), say(920, OTHER, TRANSMIT, 2, 1)), asked)


class Step(unittest.TestCase):
    def last(self, *calls):
        return told_after(*BEFORE, *calls).step

    def test_code_17_sets_it(self):
        for value in (0, 1, 65535):
            for address in (OWN, ALL):
                self.assertEqual(self.last(mode(900, 17, address, transmit=0), data(value, 920)), value)

    def test_code_1_makes_it_0(self):
        for address in (OWN, ALL):
            self.assertEqual(self.last(mode(900, 1, address)), 0)

    def test_what_leaves_it(self):
        taken = data(1, 920)
        for calls in ([(mode(900, code),) for code in range(32) if code != 1]
                      + [(mode(900, code, transmit=0), taken) for code in range(32) if code != 17]
                      + [(mode(900, 17, transmit=0),), (mode(900, 17, transmit=0), data(1, 924)),
                         (mode(900, 17), taken), (forbid(3, 0, 1), mode(900, 1)),
                         (forbid(4, 0, 17), mode(900, 17, transmit=0), taken), (say(900, OWN, RECEIVE, 1, 1), taken)]):
            self.assertEqual(self.last(*calls), 300)


class OtherWire(unittest.TestCase):
    def last(self, *calls):
        return told_after(*calls).other_wire_off

    def test_codes_4_and_20_put_it_off(self):
        for address in (OWN, ALL):
            self.assertEqual(self.last(mode(0, 4, address)), 1)
            self.assertEqual(self.last(mode(0, 4, address), mode(100, 4, address)), 1)
            self.assertEqual(self.last(mode(0, 20, address, transmit=0), data(1, 20)), 1)

    def test_codes_5_8_and_21_put_it_on(self):
        for address in (OWN, ALL):
            self.assertEqual(self.last(mode(0, 4), mode(100, 5, address)), 0)
            self.assertEqual(self.last(mode(0, 4), mode(100, 8, address)), 0)
            self.assertEqual(self.last(mode(0, 4), mode(100, 21, address, transmit=0), data(1, 120)), 0)

    def test_a_word_that_is_not_1_leaves_it(self):
        for value in (0, 2, 3, 257, 65535):
            self.assertEqual(self.last(mode(0, 20, transmit=0), data(value, 20)), 0)
            self.assertEqual(self.last(mode(0, 4), mode(100, 21, transmit=0), data(value, 120)), 1)

    def test_what_leaves_it(self):
        for before, state, codes in (((), 0, (4,)), ((mode(0, 4),), 1, (5, 8))):
            for code in range(32):
                if code not in codes:
                    self.assertEqual(self.last(*before, mode(100, code), data(1, 120)), state)
                self.assertEqual(self.last(*before, mode(100, code, transmit=0)), state)
                self.assertEqual(self.last(*before, mode(100, code, transmit=0), data(1, 119)), state)
            for code in (4, 5, 8):
                self.assertEqual(self.last(*before, allow(3, 0, 0), mode(100, code)), state)
            for code in (20, 21):
                self.assertEqual(self.last(*before, allow(4, 0, 0), mode(100, code, transmit=0), data(1, 120)), state)


class Counters(unittest.TestCase):
    def counted(self, *calls):
        """How many messages and errors more than before the calls."""
        after = told_after(*BEFORE, *calls)
        return (after.messages - TOLD.messages, after.errors - TOLD.errors)

    def test_a_receive_is_a_message_however_many_words_it_has(self):
        for address in (OWN, ALL):
            for size in (1, 2, 31, 32):
                self.assertEqual(self.counted(say(900, address, RECEIVE, 1, size % 32), *data_row([5] * size, 900)),
                                 (1, 0))

    def test_each_receive_is_one(self):
        calls = [call for turn in range(9, 40) for call in (say(turn * 100, OWN, RECEIVE, turn % 30 + 1, 1),
                                                            data(1, turn * 100 + 20))]
        self.assertEqual(self.counted(*calls), (31, 0))

    def test_a_get_does_not_count(self):
        self.assertEqual(self.counted(get(1), get(1), say(900, OWN, RECEIVE, 1, 1), data(1, 920), get(1)), (1, 0))

    def test_what_is_no_message_and_no_error(self):
        one = (say(900, OWN, RECEIVE, 1, 1), data(1, 920))
        for calls in ((flags(BUSY), *one), (forbid(TO_RECEIVE, 1, 1), *one), one[:1],
                      (one[0], say(920, OWN, TRANSMIT, 1, 1)), (mode(900, 17, transmit=0), data(1, 920)),
                      (say(900, OWN, TRANSMIT, 1, 1),), (mode(900, 1),), (mode(900, 9),), (mode(900, 31),),
                      (mode(900, 0, ALL),), (mode(900, 18, ALL),), (mode(900, 1, transmit=0),),
                      (forbid(TO_TRANSMIT, 1, 1), say(900, OWN, TRANSMIT, 1, 1)),
                      (forbid(4, 0, 17), mode(900, 17, transmit=0), data(1, 920)),
                      (say(900, OTHER, RECEIVE, 1, 1), data(1, 920)), (data(1, 900, good=0),)):
            self.assertEqual(self.counted(*calls), (0, 0))

    def test_what_is_an_error(self):
        two = (say(900, OWN, RECEIVE, 1, 2), data(1, 920))
        sender = say(920, OTHER, TRANSMIT, 1, 2)
        for calls in ((say(900, ALL, TRANSMIT, 1, 1),), (*two, tick(944)), (*two, data(2, 939)), (*two, data(2, 944)),
                      (*two, data(2, 940, good=0)), (*two, say(940, OTHER, TRANSMIT, 1, 2)),
                      (two[0], sender, tick(978)), (two[0], sender, word(0, OTHER << 11, 939)),
                      (two[0], sender, word(0, (OTHER + 1) << 11, 950)), (two[0], sender, data(1, 940)),
                      (mode(900, 17, transmit=0), tick(924)), (mode(900, 20, ALL, transmit=0), data(1, 919))):
            self.assertEqual(self.counted(*calls), (0, 1))

    def test_each_error_is_one(self):
        calls = [say(turn * 100, ALL, TRANSMIT, 1, 1) for turn in range(9, 40)]
        self.assertEqual(self.counted(*calls), (0, 31))

    def test_the_most_that_a_line_can_count(self):
        errors = [call for turn in range(5000) for call in (say(turn * 100, ALL, TRANSMIT, 1, 1),)]
        self.assertEqual(told_after(*errors).errors, 5000)


if __name__ == "__main__":
    unittest.main()
