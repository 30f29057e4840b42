import unittest

from helper import FORGET, add, ask, begin, hold, last, there

BIG = 2 ** 32 - 1


class BeginTest(unittest.TestCase):

    def test_room_at_its_edges(self):
        for room in (1, 2, 999999999, 1000000000):
            self.assertEqual(ask(begin(room)), [0], room)
        for room in (0, 1000000001, 2 ** 31, BIG):
            self.assertEqual(ask(begin(room)), [-22], room)

    def test_how_many_rules(self):
        for many in (0, 1, 7, 8):
            self.assertEqual(ask(begin(10, *[(5, 1)] * many)), [0], many)
        for many in (9, 10, 30):
            self.assertEqual(ask(begin(10, *[(5, 1)] * many)), [-22], many)

    def test_how_many_periods(self):
        for periods in (1, 2, 63, 64):
            self.assertEqual(ask(begin(10, (5, periods))), [0], periods)
        for periods in (0, 65, BIG):
            self.assertEqual(ask(begin(10, (5, periods))), [-22], periods)

    def test_each_rule_is_looked_at(self):
        for wrong in range(8):
            for periods in (0, 65):
                rules = [(5, 1)] * 8
                rules[wrong] = (5, periods)
                self.assertEqual(ask(begin(10, *rules)), [-22], (wrong, periods))

    def test_a_period_may_have_any_length(self):
        for length in (0, 1, 64, 65, 2 ** 31, BIG):
            self.assertEqual(ask(begin(10, (length, 1))), [0], length)

    def test_first_ones_may_be_refused(self):
        told = ask(begin(0), begin(10, (1, 0)), begin(10), add(5))
        self.assertEqual(told, [-22, -22, 0, 0])


class BeginAnewTest(unittest.TestCase):

    def test_no_copies_are_left(self):
        calls = [begin(10), add(1), add(2), hold(0), begin(10)]
        self.assertEqual(there(calls, 5), [])
        self.assertEqual(last(*calls, FORGET), [0, 0])
        self.assertEqual(last(*calls, add(7, 1)), -2)

    def test_numbers_times_and_room_begin_anew(self):
        told = ask(begin(10), add(100, 0, 10), begin(10), add(3, 0, 10), add(4))
        self.assertEqual(told, [0, 0, 0, 0, -28])

    def test_what_was_held_is_not_held_anew(self):
        told = ask(begin(10), add(1), hold(0), begin(10), add(1), add(2), FORGET)
        self.assertEqual(told[-1], [1, 1])

    def test_rules_and_room_are_the_new_ones(self):
        copies = [add(1), add(2), add(3)]
        self.assertEqual(last(begin(10, (0, 3)), begin(10), *copies, FORGET), [2, 2])
        self.assertEqual(last(begin(10), begin(10, (0, 2)), *copies, FORGET), [1, 1])
        self.assertEqual(last(begin(2), begin(3), *copies), 2)
        self.assertEqual(last(begin(3), begin(2), *copies), -28)

    def test_a_refused_one_changes_nothing(self):
        before = [begin(4, (0, 2)), add(1), add(2), add(3), hold(0)]
        after = [add(3), add(4), add(5), FORGET, hold(0), hold(1), hold(2), hold(3)]
        refused = (begin(0), begin(1000000001), begin(9, (0, 0)), begin(9, (0, 65)), begin(9, *[(0, 1)] * 9))
        asked = ask(*before, *after)
        self.assertEqual(asked[5:], [-13, 3, -28, [1, 1], 0, -2, 0, 0])
        for call in refused:
            told = ask(*before, call, *after)
            self.assertEqual(told, asked[:5] + [-22] + asked[5:], call)


if __name__ == "__main__":
    unittest.main()
