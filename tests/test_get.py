"""Promise 4, its part on get."""

import unittest

from tests.bus import (ALL, BUSY, OTHER, OWN, RECEIVE, TO_RECEIVE, TRANSMIT, ask, begin, data, data_row, flags, forbid,
                       get, give, got_after, mode, output, say, tick, told, word)

WRONG_SUBS = (-2147483648, -33, -32, -31, -1, 32, 33, 63, 64, 2147483647)


def received(sub, values, start=0, address=OWN):
    return [say(start, address, RECEIVE, sub, len(values) % 32)] + data_row(values, start)


class Get(unittest.TestCase):
    def test_0_before_anything_is_got(self):
        for sub in range(32):
            self.assertEqual(ask(begin(), get(sub)), [[0], [0]])

    def test_what_a_receive_has_got(self):
        for sub in range(1, 31):
            self.assertEqual(got_after(sub, *received(sub, [500 + sub, 9])), [2, 500 + sub, 9])

    def test_only_the_sub_has_it(self):
        for sub in range(32):
            expected = [1, 44] if sub == 7 else [0]
            self.assertEqual(got_after(sub, *received(7, [44])), expected)

    def test_each_size(self):
        for size in range(1, 33):
            row = [65535 - place for place in range(size)]
            self.assertEqual(got_after(3, *received(3, row)), [size] + row)

    def test_a_word_that_is_0_is_got_too(self):
        self.assertEqual(got_after(3, *received(3, [0])), [1, 0])
        self.assertEqual(got_after(3, *received(3, [0, 0])), [2, 0, 0])

    def test_words_come_without_bits_16_and_17(self):
        self.assertEqual(got_after(3, *received(3, [65535, 1])), [2, 65535, 1])

    def test_they_are_gone_then(self):
        rows = ask(begin(), *received(3, [6, 7]), get(3), get(3), get(3))
        self.assertEqual(rows[-3:], [[2, 6, 7], [0], [0]])

    def test_another_sub_is_not_gone(self):
        rows = ask(begin(), *received(3, [6]), *received(4, [7], 100), get(3), get(4), get(3), get(4))
        self.assertEqual(rows[-4:], [[1, 6], [1, 7], [0], [0]])

    def test_what_comes_behind_is_got_anew(self):
        rows = ask(begin(), *received(3, [6]), get(3), *received(3, [8, 9], 100), get(3), get(3))
        self.assertEqual((rows[3], rows[-2:]), ([1, 6], [[2, 8, 9], [0]]))

    def test_a_receive_takes_the_place_of_what_was_got(self):
        self.assertEqual(got_after(3, *received(3, [6, 7, 8]), *received(3, [9], 200)), [1, 9])

    def test_what_all_receive_is_got(self):
        self.assertEqual(got_after(3, *received(3, [6, 7], address=ALL)), [2, 6, 7])
        self.assertEqual(got_after(3, *received(3, [1]), *received(3, [6, 7], 100, ALL)), [2, 6, 7])

    def test_what_another_terminal_sends_is_got(self):
        calls = (say(0, OWN, RECEIVE, 3, 2), say(20, OTHER, TRANSMIT, 5, 2), word(0, OTHER << 11, 50),
                 *data_row([6, 7], 50))
        self.assertEqual(got_after(3, *calls), [2, 6, 7])
        self.assertEqual(got_after(5, *calls), [0])

    def test_what_another_terminal_receives_is_not_got(self):
        self.assertEqual(got_after(3, *received(3, [6], address=OTHER)), [0])

    def test_what_is_given_is_not_got(self):
        self.assertEqual(got_after(3, give(3, [6])), [0])

    def test_the_word_of_a_mode_command_is_not_got(self):
        for sub in (0, 31):
            for code in (17, 20, 21):
                calls = (mode(0, code, transmit=0, sub=sub), data(1, 20))
                self.assertEqual(got_after(sub, *calls), [0])


class NotYet(unittest.TestCase):
    BEFORE = received(3, [1, 2, 3])

    def test_it_stays_until_all_words_are_there(self):
        calls = received(3, [6, 7], 100)
        for size in range(3):
            self.assertEqual(got_after(3, *self.BEFORE, *calls[:size]), [3, 1, 2, 3])
        self.assertEqual(got_after(3, *self.BEFORE, *calls), [2, 6, 7])

    def test_a_get_does_not_stop_the_command(self):
        command, first, second = received(3, [6, 7], 100)
        rows = ask(begin(), *self.BEFORE, command, get(3), first, get(3), second, get(3))
        self.assertEqual([rows[place] for place in (6, 8, 10)], [[3, 1, 2, 3], [0], [2, 6, 7]])

    def test_it_stays_where_a_receive_fails(self):
        start = say(100, OWN, RECEIVE, 3, 2)
        for wrong in ((data(6, 119),), (data(6, 124),), (data(6, 120, good=0),), (data(6, 120), tick(144)),
                      (data(6, 120), say(140, OTHER, TRANSMIT, 1, 1)), (data(6, 120), say(140, OWN, TRANSMIT, 1, 1))):
            self.assertEqual(got_after(3, *self.BEFORE, start, *wrong), [3, 1, 2, 3])

    def test_it_stays_while_busy_and_where_it_is_not_allowed(self):
        for hindrance in (flags(BUSY), forbid(TO_RECEIVE, 3, 2)):
            self.assertEqual(got_after(3, *self.BEFORE, hindrance, *received(3, [6, 7], 100)), [3, 1, 2, 3])

    def test_it_is_fetched_while_busy_and_where_it_is_not_allowed(self):
        self.assertEqual(got_after(3, *self.BEFORE, flags(31), forbid(TO_RECEIVE, 3, 3)), [3, 1, 2, 3])

    def test_it_stays_by_the_other_calls(self):
        calls = (tick(5000), output(), give(3, [8]), told(), say(6000, OWN, TRANSMIT, 3, 1), mode(6100, 8))
        self.assertEqual(got_after(3, *self.BEFORE, *calls), [3, 1, 2, 3])


class Refused(unittest.TestCase):
    def test_other_subs_are_refused(self):
        for sub in WRONG_SUBS:
            self.assertEqual(ask(begin(), get(sub)), [[0], [-2]])

    def test_a_refused_get_changes_nothing(self):
        got = [call for sub in range(1, 31) for call in received(sub, [100 + sub], sub * 100)]
        refused = [get(sub) for sub in WRONG_SUBS]
        for sub in range(1, 31):
            self.assertEqual(got_after(sub, *got, *refused), [1, 100 + sub])


if __name__ == "__main__":
    unittest.main()
