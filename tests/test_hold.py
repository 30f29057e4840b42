import unittest

from helper import FORGET, add, ask, begin, hold, last, there

BIG = 2 ** 32 - 1


class HoldTest(unittest.TestCase):

    def test_on_at_its_edges(self):
        for on in (0, 1):
            self.assertEqual(last(begin(10), add(1), hold(0, on)), 0, on)
        for on in (2, 3, BIG):
            self.assertEqual(last(begin(10), add(1), hold(0, on)), -22, on)

    def test_which_copy_at_the_edges(self):
        copies = [begin(10), add(1), add(2)]
        for on in (0, 1):
            for k in (0, 1):
                self.assertEqual(last(*copies, hold(k, on)), 0, (k, on))
            for k in (2, 3, 64, BIG):
                self.assertEqual(last(*copies, hold(k, on)), -2, (k, on))
            self.assertEqual(last(begin(10), hold(0, on)), -2)

    def test_a_number_that_is_gone(self):
        told = ask(begin(10), add(1), add(2), FORGET, hold(0), hold(0, 0), hold(1))
        self.assertEqual(told, [0, 0, 1, [1, 1], -2, -2, 0])

    def test_a_wrong_value_is_ahead_of_no_such_copy(self):
        self.assertEqual(last(begin(10), hold(0, 2)), -22)
        self.assertEqual(last(begin(10), add(1), hold(1, 2)), -22)

    def test_held_stays_and_not_held_goes(self):
        copies = [begin(20), add(1, 0, 5), add(2, 0, 7), add(3)]
        self.assertEqual(last(*copies, FORGET), [2, 12])
        self.assertEqual(last(*copies, hold(0), FORGET), [1, 7])
        self.assertEqual(last(*copies, hold(1), FORGET), [1, 5])
        self.assertEqual(last(*copies, hold(0), hold(1), FORGET), [0, 0])
        self.assertEqual(last(*copies, hold(0, 0), FORGET), [2, 12])

    def test_one_held_then_not(self):
        told = ask(begin(20), add(1, 0, 5), add(2), hold(0), FORGET, FORGET, hold(0, 0), FORGET, hold(0))
        self.assertEqual(told[4:], [[0, 0], [0, 0], 0, [1, 5], -2])

    def test_held_twice_is_held_once(self):
        told = ask(begin(20), add(1), add(2), hold(0), hold(0), hold(0, 0), FORGET)
        self.assertEqual(told[-1], [1, 1])
        told = ask(begin(20), add(1), add(2), hold(0, 0), hold(0, 0), hold(0), FORGET)
        self.assertEqual(told[-1], [0, 0])

    def test_the_newest_not_held_stays_and_one_held_stays_when_older(self):
        self.assertEqual(last(begin(9), add(1), hold(0, 0), FORGET), [0, 0])
        self.assertEqual(there([begin(9), add(1), hold(0), add(2), add(3), FORGET], 3), [0, 2])

    def test_a_refused_one_changes_nothing(self):
        held = [begin(9), add(1), add(2), add(3), hold(0)]
        for call in (hold(0, 2), hold(1, 2), hold(3, 0), hold(3, 1), hold(0, BIG)):
            self.assertEqual(there(held + [call, FORGET], 4), [0, 2], call)


if __name__ == "__main__":
    unittest.main()
