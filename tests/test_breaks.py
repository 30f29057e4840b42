"""Where it usually breaks, as the document lists it, through all eight calls."""

import unittest

from helper import FORGET, LIST, STATE, add, ask, back, begin, hold, last, why


class BreaksTest(unittest.TestCase):

    def test_a_whole_one_that_is_old_and_still_needed(self):
        calls = [begin(100, (10, 1)), add(1, 0, 50), add(2, 1, 3), add(30, 0, 20), add(31, 2, 4)]
        told = ask(*calls, why(0), why(1), why(2), why(3), FORGET, back(3), LIST, STATE)[5:]
        self.assertEqual(told, [[1, 0, 0, 0, 1], [1, 0, 0, 0, 1], [0, 0, 0, 0, 0], [1, 1, 0, 1, 0], [1, 20],
                                [3, 0, 1, 3], [3, 0, 1, 0, 1, 2, 1, 3, 31, 2], [3, 57, 4]])
        told = ask(*calls, FORGET, add(40), why(0), FORGET, why(0), back(3), LIST, STATE)[6:]
        self.assertEqual(told, [4, [0, 0, 0, 0, 0], [3, 57], -2, -2, [1, 4, 40, 0], [1, 1, 5]])

    def test_one_held_then_not(self):
        calls = [begin(100), add(1, 0, 50), add(2, 1, 3), hold(1), add(3), FORGET]
        told = ask(*calls, why(1), why(0), back(1), hold(1, 0), why(1), why(0), LIST, FORGET, back(1), LIST, STATE)[5:]
        self.assertEqual(told, [[0, 0], [1, 0, 1, 0, 0], [1, 0, 0, 0, 1], [2, 0, 1], 0, [0, 0, 0, 0, 0],
                                [0, 0, 0, 0, 0], [3, 0, 1, 0, 1, 2, 1, 2, 3, 0], [2, 53], -2, [1, 2, 3, 0], [1, 1, 3]])

    def test_one_held_then_not_that_another_reason_keeps(self):
        told = ask(begin(100, (0, 1)), add(1), add(2, 1), hold(0), hold(0, 0), why(0), hold(1), hold(1, 0), why(1),
                   FORGET)
        self.assertEqual(told[5:], [[1, 0, 0, 0, 1], 0, 0, [1, 1, 0, 1, 0], [0, 0]])

    def test_the_newest_that_no_rule_keeps(self):
        told = ask(begin(100), add(1), why(0), FORGET, LIST, add(2), why(0), why(1), FORGET, back(1), STATE)
        self.assertEqual(told[1:], [0, [1, 0, 0, 1, 0], [0, 0], [1, 0, 1, 0], 1, [0, 0, 0, 0, 0], [1, 0, 0, 1, 0],
                                    [1, 1], [1, 1], [1, 1, 2]])

    def test_room_just_full(self):
        told = ask(begin(10), add(1, 0, 4), add(2, 0, 6), STATE, add(3), STATE, LIST, why(1), back(2), FORGET, STATE,
                   add(3, 2, 5), add(3, 2, 4), STATE, back(2))
        self.assertEqual(told[3:], [[2, 10, 2], -28, [2, 10, 2], [2, 0, 1, 0, 1, 2, 0], [1, 0, 0, 1, 0], -2, [1, 4],
                                    [1, 6, 2], -28, 2, [2, 10, 3], [2, 1, 2]])

    def test_times_that_are_alike(self):
        told = ask(begin(10, (0, 2)), add(5), add(5), LIST, STATE, why(0), why(1), add(6), add(6, 1), add(5), LIST,
                   STATE, why(0), why(1), FORGET)
        self.assertEqual(told[2:], [-13, [1, 0, 5, 0], [1, 1, 1], [1, 1, 0, 1, 0], -2, 1, -13, -13,
                                    [2, 0, 5, 0, 1, 6, 0], [2, 2, 2], [1, 1, 0, 0, 0], [1, 1, 0, 1, 0], [0, 0]])

    def test_the_time_of_the_newest_one_forbids_it_after_forgetting_too(self):
        told = ask(begin(10), add(5), add(6), FORGET, add(6), add(5), LIST, begin(10), add(5), LIST)
        self.assertEqual(told[3:], [[1, 1], -13, -13, [1, 1, 6, 0], 0, 0, [1, 0, 5, 0]])

    def test_a_number_that_is_gone(self):
        calls = [begin(10), add(1), add(2), FORGET]
        told = ask(*calls, back(0), why(0), hold(0), hold(0, 0), add(3, 1), LIST, STATE, add(3), back(0), why(0), LIST)
        self.assertEqual(told[4:], [-2, -2, -2, -2, -2, [1, 1, 2, 0], [1, 1, 2], 2, -2, -2, [2, 1, 2, 0, 2, 3, 0]])

    def test_no_rules(self):
        told = ask(begin(10), LIST, STATE, FORGET, back(0), why(0), add(1), add(2), add(3, 1), why(0), why(1), why(2),
                   FORGET, LIST, STATE, back(2))
        self.assertEqual(told[1:6], [0, [0, 0, 0], [0, 0], -2, -2])
        self.assertEqual(told[9:], [[1, 0, 0, 0, 1], [0, 0, 0, 0, 0], [1, 0, 0, 1, 0], [1, 1], [2, 0, 1, 0, 2, 3, 1],
                                    [2, 2, 3], [2, 0, 2]])

    def test_64_copies(self):
        calls = [begin(1000, (0, 63), (8, 3))] + [add(time) for time in range(64)]
        told = ask(*calls, STATE, add(64), add(64, 64), STATE, why(0), why(1), why(47), why(63), back(63))[65:]
        self.assertEqual(told, [[64, 64, 64], -12, -12, [64, 64, 64], [0, 0, 0, 0, 0], [1, 1, 0, 0, 0], [1, 3, 0, 0, 0],
                                [1, 3, 0, 1, 0], [1, 63]])
        told = ask(*calls, FORGET, STATE, add(64, 64), STATE, add(65), why(64), why(1), back(64), back(0))[65:]
        self.assertEqual(told, [[1, 1], [63, 63, 64], 64, [64, 64, 65], -12, [1, 3, 0, 1, 0], [0, 0, 0, 0, 0],
                                [2, 63, 64], -2])
        listed = last(*calls, FORGET, add(64, 64), LIST)
        self.assertEqual(listed[:4] + listed[-3:], [64, 1, 1, 0, 64, 64, 64])

    def test_64_copies_all_needed_leave_room_for_none(self):
        calls = [begin(1000)] + [add(time, time) for time in range(64)]
        told = ask(*calls, FORGET, add(64, 64), hold(0), FORGET, STATE, back(63))[65:]
        self.assertEqual(told, [[0, 0], -12, 0, [0, 0], [64, 64, 64], [64] + list(range(64))])


if __name__ == "__main__":
    unittest.main()
