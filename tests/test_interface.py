"""The interface: how calls and answers stand in their lists."""

import unittest

from busterminal.terminal import UnknownCall, answers


class Interface(unittest.TestCase):
    def test_a_line_of_all_calls_in_plain_numbers(self):
        calls = [0, 5, 4, 3, 2, 7, 8, 1, 0, 0x2C63, 1, 0, 3, 3, 2, 99, 4, 32, 1, 6, 0, 31, 1, 2, 0, 1, 0]
        self.assertEqual(answers(calls), [1, 0, 1, 0, 1, 0, 5, 4, 0x22800, 0x10007, 0x10008, 0x30000, 1, 0,
                                          1, 0, 1, -2, 1, -2, 1, -2])

    def test_an_empty_row_and_a_row_that_looks_like_calls(self):
        self.assertEqual(answers([0, 5, 4, 3, 0, 4, 3, 4, 3, 3, 3, 3, 3]), [1, 0, 1, 0, 1, 0, 1, 0])

    def test_a_refused_row_is_passed_over_whole(self):
        self.assertEqual(answers([0, 5, 4, 3, 40] + [3] * 40 + [3]), [1, 0, 1, -2, 1, 0])

    def test_what_is_handed_in_is_not_changed(self):
        calls = [0, 5, 4, 3, 2, 7, 8, 1, 0, 0x2C63, 1, 0, 3, 1, 0, 0x2822, 1, 50, 1, 1, 9, 1, 70, 1, 1, 9, 1, 90]
        before = list(calls)
        answers(calls)
        self.assertEqual(calls, before)

    def test_nothing_is_kept(self):
        answers([0, 5, 4, 3, 1, 7, 1, 0, 0x2C61, 1, 0])
        self.assertEqual(answers([0, 5, 3, 1, 0, 0x2C61, 1, 0, 3]), [1, 0, 1, 0, 1, 0, 3, 2, 0x22800, 0x30000])

    def test_whole_numbers_and_lists_alone_are_given_back(self):
        told = answers([0, 5, 4, 3, 1, 7, 1, 0, 0x2C61, 1, 0, 3, 0, 31])
        self.assertIs(type(told), list)
        self.assertEqual({type(number) for number in told}, {int})

    def test_the_longest_line(self):
        self.assertEqual(answers([0, 5] + [3] * 19999), [1, 0] * 20000)
        calls = [0, 5] + [1, 0, 0x2C7F, 1, 0] * 5999 + [3]
        self.assertEqual(answers(calls), [1, 0] * 6000 + [33, 32, 0x22800] + [0x30000] * 31)

    def test_a_call_that_is_not_there_fails(self):
        for number in (-1, 9):
            with self.assertRaises(UnknownCall):
                answers([0, 5, number])


if __name__ == "__main__":
    unittest.main()
