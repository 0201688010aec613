"""Promise 3: output."""

import unittest

from tests.bus import (ALL, OWN, RECEIVE, SILENCE, TRANSMIT, ask, begin, data, give, mode, output, output_after, say,
                       sent, status, tick)


class Output(unittest.TestCase):
    def test_nothing_at_the_beginning(self):
        self.assertEqual(ask(begin(), output()), [[0], [0]])

    def test_sync_and_parity_in_plain_numbers(self):
        # Address 5 is 0x2800 with two ones; 7 has three; 0 has none.
        told = output_after(give(3, [7, 8, 65535, 0x8001, 0x8000]), say(0, 5, 1, 3, 6))
        self.assertEqual(told, [7, 0x22800, 0x10007, 0x10008, 0x3FFFF, 0x38001, 0x18000, 0x30000])

    def test_parity_of_a_status_with_an_odd_number_of_ones(self):
        self.assertEqual(ask(begin(1), say(0, 1, 1, 3, 1), output())[-1], [2, 0x00800, 0x30000])
        self.assertEqual(ask(begin(0), say(0, 0, 1, 3, 1), output())[-1], [2, 0x20000, 0x30000])

    def test_each_bit_of_a_word_counts_for_its_parity(self):
        for place in range(16):
            told = output_after(give(1, [1 << place, 65535 ^ 1 << place]), say(0, OWN, TRANSMIT, 1, 2))
            self.assertEqual(told[2:], [65536 + (1 << place), 65536 + (65535 ^ 1 << place)])

    def test_it_is_fetched_once(self):
        told = ask(begin(), say(0, OWN, TRANSMIT, 1, 1), output(), output(), output())
        self.assertEqual(told[2:], [sent(status(), 0), SILENCE, SILENCE])

    def test_a_new_answer_takes_the_place(self):
        told = output_after(give(1, [4, 5, 6]), say(0, OWN, TRANSMIT, 1, 3), say(900, OWN, TRANSMIT, 1, 1))
        self.assertEqual(told, sent(status(), 4))

    def test_what_sends_nothing_leaves_the_answer(self):
        for quiet in (say(900, ALL, TRANSMIT, 1, 1), say(900, ALL, RECEIVE, 1, 1), say(900, OWN, RECEIVE, 1, 1),
                      mode(900, 1, ALL), mode(900, 18, ALL), mode(900, 31, ALL), tick(900), data(5, 900),
                      [1, 2, 0, 1, 900], give(1, [9])):
            told = output_after(give(1, [4]), say(0, OWN, TRANSMIT, 1, 1), quiet)
            self.assertEqual(told, sent(status(), 4))

    def test_the_answer_is_what_it_was_when_it_was_made(self):
        self.assertEqual(output_after(give(1, [4]), say(0, OWN, TRANSMIT, 1, 1), give(1, [9])), sent(status(), 4))

    def test_it_is_fetched_while_a_command_goes_on(self):
        told = ask(begin(), say(0, OWN, TRANSMIT, 1, 1), say(100, OWN, RECEIVE, 1, 1), output(), data(1, 120), output())
        self.assertEqual(told[3], sent(status(), 0))
        self.assertEqual(told[5], sent(status()))


if __name__ == "__main__":
    unittest.main()
