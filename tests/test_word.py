"""Promise 2, word and tick, and what begins a command."""

import unittest

from tests.bus import (ALL, OTHER, OWN, RECEIVE, SILENCE, TRANSMIT, ask, begin, command, data, data_row, mode, output,
                       output_after, say, sent, status, seen_after, tick, word)

TRANSMIT_ONE = command(OWN, TRANSMIT, 1, 1)


class Answers(unittest.TestCase):
    def test_sync_0_and_1_are_taken(self):
        self.assertEqual(ask(begin(), word(0, 1, 2), word(1, 65535, 4294967295), word(0, 0, 0, good=0)),
                         [[0], [0], [0], [0]])

    def test_other_syncs_are_refused(self):
        for sync in (-2147483648, -2, -1, 2, 3, 256, 2147483647):
            self.assertEqual(ask(begin(), word(sync, TRANSMIT_ONE, 0), output()), [[0], [-2], [0]])
            self.assertEqual(ask(begin(), word(sync, TRANSMIT_ONE, 0, good=0))[1], [-2])

    def test_a_refused_word_changes_nothing(self):
        told = output_after(say(0, OWN, RECEIVE, 1, 2), data(1, 20), word(2, 3, 21), word(-1, 3, 40),
                            word(2, TRANSMIT_ONE, 4000), data(2, 40))
        self.assertEqual(told, sent(status()))

    def test_a_refused_word_does_not_see_the_silence(self):
        seen = seen_after(say(0, OWN, RECEIVE, 1, 1), word(2, 3, 5000))
        self.assertEqual((seen.error, seen.errors), (0, 0))

    def test_tick_answers_0(self):
        self.assertEqual(ask(begin(), tick(0), tick(4294967295), say(7, OWN, RECEIVE, 1, 1), tick(8), tick(800)),
                         [[0]] * 6)

    def test_tick_does_nothing_where_nothing_is_awaited(self):
        seen = seen_after(say(0, OWN, TRANSMIT, 1, 1), tick(5000))
        self.assertEqual((seen.error, seen.errors), (0, 0))


class Beginning(unittest.TestCase):
    def test_good_is_all_but_0(self):
        for good in (-2147483648, -1, 1, 2, 256, 2147483647):
            self.assertEqual(output_after(word(0, TRANSMIT_ONE, 0, good)), sent(status(), 0))
        self.assertEqual(output_after(word(0, TRANSMIT_ONE, 0, good=0)), SILENCE)

    def test_a_data_word_begins_no_command(self):
        self.assertEqual(output_after(word(1, TRANSMIT_ONE, 0)), SILENCE)

    def test_what_begins_no_command_is_not_looked_at(self):
        seen = seen_after(word(1, TRANSMIT_ONE, 0), word(0, TRANSMIT_ONE, 20, good=0),
                                  say(40, OTHER, RECEIVE, 1, 1), data(3, 60), data(3, 80, good=0), tick(5000))
        self.assertEqual(seen, seen_after())

    def test_a_command_in_place_of_data_is_no_error(self):
        for now in (0, 1, 19, 20, 21, 23):
            calls = (say(0, OWN, RECEIVE, 1, 1), say(now, OWN, TRANSMIT, 1, 1))
            self.assertEqual(output_after(*calls), sent(status(), 0))
            seen = seen_after(*calls, tick(5000))
            self.assertEqual((seen.errors, seen.messages), (0, 0))

    def test_a_command_to_all_in_place_of_data_is_no_error(self):
        seen = seen_after(say(0, OWN, RECEIVE, 1, 1), say(20, ALL, RECEIVE, 2, 1), data(8, 40))
        self.assertEqual((seen.errors, seen.messages, seen.got[1], seen.got[2]), (0, 1, [], [8]))

    def test_what_has_been_got_is_lost(self):
        seen = seen_after(say(0, OWN, RECEIVE, 1, 2), data(1, 20), say(40, OWN, RECEIVE, 1, 2),
                                  *data_row([2, 3], 40))
        self.assertEqual((seen.got[1], seen.messages, seen.errors), ([2, 3], 1, 0))

    def test_a_command_in_place_of_the_senders_status_is_no_error(self):
        for now in (21, 40, 77):
            calls = (say(0, OWN, RECEIVE, 1, 1), say(20, OTHER, TRANSMIT, 1, 1), say(now, OWN, TRANSMIT, 1, 1))
            self.assertEqual(output_after(*calls), sent(status(), 0))
            self.assertEqual(seen_after(*calls).errors, 0)

    def test_error_is_0_by_the_next_command(self):
        wrong = say(0, OWN, TRANSMIT, 0, 31)
        self.assertEqual(output_after(wrong), sent(status(error=1)))
        self.assertEqual(output_after(wrong, say(100, OWN, TRANSMIT, 1, 1)), sent(status(), 0))

    def test_error_is_0_even_by_a_command_that_has_not_ended(self):
        told = output_after(mode(0, 31), say(100, OWN, RECEIVE, 1, 1), mode(110, 18))
        self.assertEqual(told, sent(status(), command(OWN, RECEIVE, 1, 1)))

    def test_to_all_is_of_the_last_command(self):
        to_all = say(0, ALL, RECEIVE, 1, 1), data(6, 20)
        self.assertEqual(output_after(*to_all, mode(100, 18)),
                         sent(status(to_all=1), command(ALL, RECEIVE, 1, 1)))
        self.assertEqual(output_after(*to_all, say(100, OWN, TRANSMIT, 1, 1)), sent(status(), 0))


class LastCommand(unittest.TestCase):
    def after(self, *calls):
        return output_after(*calls, mode(5000, 18))

    def test_it_is_0_at_the_beginning(self):
        self.assertEqual(self.after(), sent(status(), 0))

    def test_it_is_a_command_of_each_kind(self):
        for transmit, sub, count in ((1, 1, 1), (1, 30, 0), (1, 0, 1), (1, 31, 8), (1, 0, 16), (1, 31, 19)):
            self.assertEqual(self.after(say(0, OWN, transmit, sub, count)),
                             sent(status(), command(OWN, transmit, sub, count)))

    def test_it_is_one_that_fails_or_is_in_error(self):
        for address, transmit, sub, count in ((OWN, 1, 0, 9), (OWN, 0, 0, 1), (OWN, 1, 0, 17), (OWN, 0, 2, 3)):
            self.assertEqual(self.after(say(0, address, transmit, sub, count)),
                             sent(status(error=1), command(address, transmit, sub, count)))

    def test_it_is_one_to_all(self):
        self.assertEqual(self.after(mode(0, 1, ALL)), sent(status(to_all=1), command(ALL, 1, 0, 1)))

    def test_it_is_not_one_to_another_terminal(self):
        self.assertEqual(self.after(mode(0, 1), say(100, OTHER, TRANSMIT, 1, 1)),
                         sent(status(), command(OWN, 1, 0, 1)))

    def test_it_is_not_the_senders_command(self):
        self.assertEqual(self.after(say(0, OWN, RECEIVE, 1, 1), say(20, OTHER, TRANSMIT, 1, 1),
                                    word(0, OTHER << 11, 50), data(4, 70)),
                         sent(status(), command(OWN, RECEIVE, 1, 1)))

    def test_it_is_not_mode_code_2_or_18_to_this_terminal(self):
        for code in (2, 18):
            for sub in (0, 31):
                told = self.after(mode(0, 1), mode(100, code, sub=sub))
                self.assertEqual(told, sent(status(), command(OWN, 1, 0, 1)))

    def test_it_is_not_mode_code_2_or_18_with_bit_10_clear_either(self):
        for code in (2, 18):
            told = self.after(mode(0, 1), mode(100, code, transmit=0))
            self.assertEqual(told, sent(status(error=1), command(OWN, 1, 0, 1)))

    def test_it_is_mode_code_2_or_18_to_all(self):
        for code in (2, 18):
            told = self.after(mode(0, 1), mode(100, code, ALL))
            self.assertEqual(told, sent(status(error=1, to_all=1), command(ALL, 1, 0, code)))

    def test_it_is_a_count_of_2_or_18_that_is_no_mode_code(self):
        for count in (2, 18):
            told = self.after(say(0, OWN, TRANSMIT, 1, count))
            self.assertEqual(told, sent(status(), command(OWN, 1, 1, count)))

    def test_mode_codes_2_and_18_leave_error_and_to_all(self):
        for code in (2, 18):
            told = self.after(say(0, ALL, TRANSMIT, 1, 1), mode(100, code))
            self.assertEqual(told, sent(status(error=1, to_all=1), command(ALL, 1, 1, 1)))


if __name__ == "__main__":
    unittest.main()
