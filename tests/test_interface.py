"""The interface: how calls and answers stand in their lists."""

import unittest

from busterminal.terminal import UnknownCall, answers


# A line with each of the nine calls, and what it is answered, in plain numbers.
LINE = [
    0, 5,
    4, 3, 2, 7, 8,
    1, 0, 0x2C63, 1, 0,
    3,
    3,
    2, 99,
    6, 3,
    7, 1, 3, 0,
    1, 0, 0x2C63, 1, 200,
    3,
    7, 0, 3, 4,
    6, 16,
    1, 0, 0x2862, 1, 300,
    1, 1, 900, 1, 320,
    1, 1, 65535, -1, 343,
    8,
    5, 3,
    5, 3,
]
ANSWERED = [
    1, 0,
    1, 0,
    1, 0,
    5, 4, 0x22800, 0x10007, 0x10008, 0x30000,
    1, 0,
    1, 0,
    1, 0,
    1, 0,
    1, 0,
    2, 1, 0x02D08,
    1, 0,
    1, 0,
    1, 0,
    1, 0,
    1, 0,
    7, 0, 0x2800, 0x2862, 0, 0, 1, 0,
    3, 2, 900, 65535,
    1, 0,
]
REFUSED = [0, 31, 1, 2, 0, 1, 0, 4, 32, 1, 6, 4, 1, 33] + [6] * 33 + [5, 32, 6, 32, 7, 5, 0, 0, 7, 0, 32, 0, 7, 3, 1, 0]


class Interface(unittest.TestCase):
    def test_a_line_of_all_calls_in_plain_numbers(self):
        self.assertEqual(answers(LINE), ANSWERED)

    def test_each_refusal_is_one_number(self):
        self.assertEqual(answers([0, 5] + REFUSED + [3]), [1, 0] + [1, -2] * 9 + [1, 0])

    def test_refusals_change_nothing(self):
        self.assertEqual(answers([0, 5] + REFUSED + LINE[2:]), [1, 0] + [1, -2] * 9 + ANSWERED[2:])
        self.assertEqual(answers(LINE + REFUSED + [8])[-8:], [7, 0, 0x2800, 0x2862, 0, 0, 1, 0])

    def test_begin_may_come_again_in_one_line(self):
        self.assertEqual(answers(LINE + LINE + LINE), ANSWERED * 3)

    def test_each_cut_of_a_line_is_answered_alike(self):
        calls, answered = [], []
        for call, numbers in zip(self.calls_of(LINE), self.answers_of(ANSWERED)):
            calls += call
            answered += numbers
            self.assertEqual(answers(calls), answered)
        self.assertEqual((calls, answered), (LINE, ANSWERED))

    def calls_of(self, line):
        lengths = {0: 2, 1: 5, 2: 2, 3: 1, 4: 5, 5: 2, 6: 2, 7: 4, 8: 1}
        while line:
            yield line[:lengths[line[0]]]
            line = line[lengths[line[0]]:]

    def answers_of(self, answered):
        while answered:
            yield answered[:answered[0] + 1]
            answered = answered[answered[0] + 1:]

    def test_an_empty_row_and_a_row_that_looks_like_calls(self):
        self.assertEqual(answers([0, 5, 4, 3, 0, 4, 3, 4, 3, 3, 3, 3, 3]), [1, 0, 1, 0, 1, 0, 1, 0])

    def test_a_refused_row_is_passed_over_whole(self):
        self.assertEqual(answers([0, 5, 4, 3, 40] + [3] * 40 + [3]), [1, 0, 1, -2, 1, 0])

    def test_what_is_handed_in_is_not_changed(self):
        for line in (LINE, [0, 5] + REFUSED, LINE + REFUSED + LINE):
            calls = list(line)
            answers(calls)
            self.assertEqual(calls, line)

    def test_what_is_handed_in_is_not_changed_for_a_while_either(self):
        class Watched(list):
            def refuse(self, *arguments):
                raise AssertionError("changed")

            __setitem__ = __delitem__ = __iadd__ = __imul__ = append = extend = insert = pop = remove = refuse
            clear = reverse = sort = refuse

        self.assertEqual(answers(Watched(LINE)), ANSWERED)

    def test_nothing_is_kept(self):
        changed = [0, 9] + [4, 3, 1, 7, 6, 31] + [7, 0, 3, 0, 7, 1, 3, 0, 7, 2, 3, 0, 7, 3, 0, 0, 7, 4, 0, 0]
        changed += [1, 0, 0xFC61, 1, 0, 1, 0, 0x4861, 1, 300]
        for turn in range(3):
            answers(changed)
            self.assertEqual(answers(LINE), ANSWERED)
            self.assertEqual(answers([0, 5, 8, 3, 5, 3]), [1, 0, 7, 0, 0, 0, 0, 0, 0, 0, 1, 0, 1, 0])

    def test_what_is_given_back_is_new_each_time(self):
        first = answers(LINE)
        first[:] = []
        self.assertEqual(answers(LINE), ANSWERED)

    def test_whole_numbers_and_lists_alone_are_given_back(self):
        told = answers(LINE + REFUSED + [8, 1, 0, 0x2C04, 1, 900, 8, 1, 0, 0xFC21, 1, 990, 8])
        self.assertIs(type(told), list)
        self.assertEqual({type(number) for number in told}, {int})

    def test_numbers_at_the_ends_of_their_ranges(self):
        low, high, top = -2147483648, 2147483647, 4294967295
        calls = [0, 30, 0, low, 0, high]
        calls += [1, low, 0, 1, 0, 1, high, 65535, 1, top, 1, 0, 0, low, 0, 1, 1, 65535, high, top, 2, top]
        calls += [4, low, 0, 4, high, 0, 5, low, 5, high, 6, low, 6, high]
        calls += [7, low, 0, top, 7, high, 0, top, 7, 0, low, top, 7, 0, high, top, 7, 3, low, top, 7, 4, high, top]
        calls += [7, 0, 0, top]
        self.assertEqual(answers(calls), [1, 0] + [1, -2] * 4 + [1, 0] * 3 + [1, -2] * 12 + [1, 0])

    def test_the_longest_line(self):
        self.assertEqual(answers([0, 5] + [3] * 19999), [1, 0] * 20000)
        self.assertEqual(answers([0, 5] + [8] * 19999), [1, 0] + [7, 0, 0, 0, 0, 0, 0, 0] * 19999)
        calls = [0, 5] + [1, 0, 0x2C7F, 1, 0] * 5999 + [3]
        self.assertEqual(answers(calls), [1, 0] * 6000 + [33, 32, 0x22800] + [0x30000] * 31)

    def test_a_call_that_is_not_there_fails(self):
        for number in (-1, 9):
            with self.assertRaises(UnknownCall):
                answers([0, 5, number])


if __name__ == "__main__":
    unittest.main()
