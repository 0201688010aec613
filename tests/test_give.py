"""Promise 4, its part on give."""

import unittest

from tests.bus import OWN, TRANSMIT, ask, begin, give, mode, output, output_after, say, sent, status


class Give(unittest.TestCase):
    def test_every_sub_takes_words(self):
        for sub in range(32):
            self.assertEqual(ask(begin(), give(sub, [sub + 1])), [[0], [0]])

    def test_each_sub_has_its_own_words(self):
        gives = [give(sub, [100 + sub]) for sub in range(32)]
        for sub in range(1, 31):
            self.assertEqual(output_after(*gives, say(0, OWN, TRANSMIT, sub, 1)), sent(status(), 100 + sub))
        self.assertEqual(output_after(*gives, mode(0, 16)), sent(status(), 100))
        self.assertEqual(output_after(*gives, mode(0, 19)), sent(status(), 131))

    def test_other_subs_are_refused(self):
        for sub in (-2147483648, -32, -31, -1, 32, 33, 2147483647):
            self.assertEqual(ask(begin(), give(sub, [1]), give(sub, [])), [[0], [-2], [-2]])

    def test_a_refused_sub_changes_nothing(self):
        gives = [give(sub, [100 + sub]) for sub in range(32)]
        wrong = [give(-1, [1]), give(-31, [1]), give(32, [1]), give(33, [1])]
        for sub in range(1, 31):
            self.assertEqual(output_after(*gives, *wrong, say(0, OWN, TRANSMIT, sub, 1)), sent(status(), 100 + sub))
        self.assertEqual(output_after(*gives, *wrong, mode(0, 16)), sent(status(), 100))
        self.assertEqual(output_after(*gives, *wrong, mode(0, 19)), sent(status(), 131))

    def test_a_row_of_32_is_taken(self):
        row = list(range(1000, 1032))
        self.assertEqual(ask(begin(), give(7, row))[1], [0])
        self.assertEqual(output_after(give(7, row), say(0, OWN, TRANSMIT, 7, 0)), sent(status(), *row))

    def test_a_longer_row_is_refused_and_changes_nothing(self):
        for size in (33, 34, 39, 40):
            told = ask(begin(), give(7, [5]), give(7, [9] * size), say(0, OWN, TRANSMIT, 7, 2), output())
            self.assertEqual(told[2], [-2])
            self.assertEqual(told[4], sent(status(), 5, 0))

    def test_the_words_before_are_gone(self):
        told = output_after(give(7, [5, 6, 7]), give(7, [8]), say(0, OWN, TRANSMIT, 7, 3))
        self.assertEqual(told, sent(status(), 8, 0, 0))

    def test_an_empty_row_takes_the_place_too(self):
        self.assertEqual(output_after(give(7, [5]), give(7, []), say(0, OWN, TRANSMIT, 7, 1)), sent(status(), 0))

    def test_words_are_not_used_up(self):
        told = ask(begin(), give(7, [5, 6]), say(0, OWN, TRANSMIT, 7, 3), output(), say(99, OWN, TRANSMIT, 7, 1),
                   output(), say(999, OWN, TRANSMIT, 7, 4), output())
        self.assertEqual(told[3], sent(status(), 5, 6, 0))
        self.assertEqual(told[5], sent(status(), 5))
        self.assertEqual(told[7], sent(status(), 5, 6, 0, 0))


if __name__ == "__main__":
    unittest.main()
