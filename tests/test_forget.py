import unittest

from helper import FORGET, add, ask, begin, hold, last, there

BIG = 2 ** 32 - 1


def left(rules, times):
    """The times that stay of copies that stand by themselves."""
    calls = [begin(1000, *rules)] + [add(time) for time in times] + [FORGET]
    return [times[k] for k in there(calls, len(times))]


class RulesTest(unittest.TestCase):

    def test_the_newest_of_each_of_the_last_periods(self):
        times = [0, 3, 9, 10, 19, 20, 35, 36]
        self.assertEqual(left([(10, 1)], times), [36])
        self.assertEqual(left([(10, 2)], times), [20, 36])
        self.assertEqual(left([(10, 3)], times), [19, 20, 36])
        self.assertEqual(left([(10, 4)], times), [9, 19, 20, 36])
        self.assertEqual(left([(10, 5)], times), [9, 19, 20, 36])
        self.assertEqual(left([(10, 64)], times), [9, 19, 20, 36])

    def test_periods_that_have_none_do_not_count(self):
        self.assertEqual(left([(10, 2)], [1, 2, 1000000]), [2, 1000000])
        self.assertEqual(left([(10, 3)], [5, 15, 500, 90000]), [15, 500, 90000])

    def test_periods_begin_at_time_0(self):
        self.assertEqual(left([(10, 9)], [9, 10]), [9, 10])
        self.assertEqual(left([(10, 9)], [10, 19]), [19])
        self.assertEqual(left([(10, 9)], [8, 9]), [9])
        self.assertEqual(left([(10, 9)], [19, 20, 29, 30]), [19, 29, 30])

    def test_period_0(self):
        times = [0, 1, 2, 70, 71]
        for many in (1, 2, 3, 4, 5):
            self.assertEqual(left([(0, many)], times), times[-many:], many)
        self.assertEqual(left([(0, 6)], times), times)
        self.assertEqual(left([(0, 64)], times), times)

    def test_period_1(self):
        self.assertEqual(left([(1, 3)], [0, 1, 2, 3]), [1, 2, 3])

    def test_the_longest_periods(self):
        times = [0, 1, 2 ** 31 - 2, 2 ** 31 - 1]
        self.assertEqual(left([(BIG, 64)], times), [2 ** 31 - 1])
        self.assertEqual(left([(2 ** 31, 64)], times), [2 ** 31 - 1])
        self.assertEqual(left([(2 ** 31 - 1, 64)], times), [2 ** 31 - 2, 2 ** 31 - 1])

    def test_several_rules_together(self):
        times = [1, 5, 12, 17, 23, 31, 32, 33]
        self.assertEqual(left([(0, 2)], times), [32, 33])
        self.assertEqual(left([(10, 3)], times), [17, 23, 33])
        self.assertEqual(left([(20, 2)], times), [17, 33])
        self.assertEqual(left([(0, 2), (10, 3)], times), [17, 23, 32, 33])
        self.assertEqual(left([(10, 3), (0, 2), (30, 2)], times), [17, 23, 32, 33])
        self.assertEqual(left([(0, 1), (1000, 1)], times), [33])

    def test_the_eighth_rule_counts(self):
        times = [1, 2, 3, 4, 5]
        self.assertEqual(left([(10, 1)] * 7 + [(0, 4)], times), [2, 3, 4, 5])

    def test_the_same_rule_twice_is_one(self):
        self.assertEqual(left([(0, 2), (0, 2)], [1, 2, 3, 4]), [3, 4])

    def test_no_rules(self):
        self.assertEqual(left([], [1, 2, 3]), [3])

    def test_64_copies(self):
        times = list(range(64))
        self.assertEqual(left([(0, 64)], times), times)
        self.assertEqual(left([(0, 63)], times), times[1:])
        self.assertEqual(left([], times), [63])
        self.assertEqual(left([(8, 64)], times), [7, 15, 23, 31, 39, 47, 55, 63])


class NeedTest(unittest.TestCase):

    def test_a_whole_one_that_is_old_and_still_needed(self):
        calls = [begin(100), add(1, 0, 10), add(2, 0, 20), add(3, 1, 5), FORGET]
        self.assertEqual(last(*calls), [1, 20])
        self.assertEqual(there(calls, 3), [0, 2])

    def test_a_chain_is_needed_whole(self):
        calls = [begin(100)] + [add(k + 1, k) for k in range(64)]
        self.assertEqual(last(*calls, FORGET), [0, 0])
        calls[64] = add(64, 32)
        self.assertEqual(last(*calls, FORGET), [31, 31])
        self.assertEqual(there(calls + [FORGET], 64), list(range(32)) + [63])

    def test_those_that_build_upon_one_that_stays_go(self):
        calls = [begin(100), add(1), hold(0), add(2, 1), add(3, 2), add(4), FORGET]
        self.assertEqual(there(calls, 4), [0, 3])

    def test_one_held_keeps_what_it_needs(self):
        calls = [begin(100), add(1), add(2, 1), add(3, 2), add(4, 2), add(5), hold(2), FORGET]
        self.assertEqual(there(calls, 5), [0, 1, 2, 4])
        self.assertEqual(last(*calls, hold(2, 0), FORGET), [3, 3])

    def test_a_rule_keeps_what_its_copies_need(self):
        calls = [begin(100, (10, 2)), add(1), add(2), add(9, 1), add(11), add(19, 4), add(20), FORGET]
        self.assertEqual(there(calls, 6), [3, 4, 5])
        calls[0] = begin(100, (10, 3))
        self.assertEqual(there(calls, 6), [0, 2, 3, 4, 5])

    def test_several_may_need_one(self):
        calls = [begin(100, (0, 2)), add(1), add(2), add(3, 1), add(4, 1), FORGET]
        self.assertEqual(there(calls, 4), [0, 2, 3])
        self.assertEqual(there(calls + [add(5), FORGET], 5), [0, 3, 4])
        self.assertEqual(there(calls + [add(5), add(6), FORGET], 6), [4, 5])

    def test_one_needed_alone_is_no_newer_period(self):
        # Copy 0 stays as it is needed; the rule's two periods are those of 20 and 10.
        calls = [begin(100, (10, 2)), add(1), add(12), add(25, 1), FORGET]
        self.assertEqual(there(calls, 3), [0, 1, 2])
        self.assertEqual(there(calls + [add(31), FORGET], 4), [0, 2, 3])
        self.assertEqual(there(calls + [add(31), FORGET, add(41), FORGET], 5), [3, 4])


class ForgetTest(unittest.TestCase):

    def test_no_copies(self):
        self.assertEqual(ask(begin(5), FORGET, FORGET), [0, [0, 0], [0, 0]])
        self.assertEqual(last(begin(5, (0, 1)), FORGET), [0, 0])

    def test_how_many_and_how_big(self):
        calls = [begin(1000000000), add(1, 0, 1000000), add(2, 0, 999), add(3, 0, 7), FORGET]
        self.assertEqual(last(*calls), [2, 1000999])

    def test_63_of_the_biggest_go(self):
        calls = [begin(1000000000)] + [add(time, 0, 1000000) for time in range(64)]
        self.assertEqual(last(*calls, FORGET), [63, 63000000])

    def test_forgotten_twice_is_forgotten_once(self):
        calls = [begin(100, (10, 2)), add(1), add(2), add(13, 1), add(14), add(25, 2), FORGET]
        self.assertEqual(last(*calls), [2, 2])
        self.assertEqual(last(*calls, FORGET), [0, 0])
        self.assertEqual(there(calls, 5), there(calls + [FORGET], 5))

    def test_the_newest_stays_till_a_newer_one_comes(self):
        told = ask(begin(10), add(1), FORGET, FORGET, add(2), FORGET, hold(0), hold(1))
        self.assertEqual(told, [0, 0, [0, 0], [0, 0], 1, [1, 1], -2, 0])

    def test_numbers_go_on_after_forgetting(self):
        self.assertEqual(ask(begin(10), add(1), add(2), FORGET, add(3))[-1], 2)


if __name__ == "__main__":
    unittest.main()
