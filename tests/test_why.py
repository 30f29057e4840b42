"""why answers: would it stay, the rules that keep it, is it held, is it the newest, does another wanted one need it."""

import unittest

from helper import FORGET, add, ask, back, begin, hold, last, there, why

BIG = 2 ** 32 - 1


def whys(calls, many):
    return ask(*calls, *[why(k) for k in range(many)])[len(calls):]


class StayTest(unittest.TestCase):

    def test_it_would_be_forgotten(self):
        self.assertEqual(last(begin(10), add(1), add(2), why(0)), [0, 0, 0, 0, 0])
        self.assertEqual(last(begin(10, (0, 1)), add(1), add(2), why(0)), [0, 0, 0, 0, 0])

    def test_each_reason_by_itself(self):
        copies = [begin(10, (10, 2)), add(1), add(9), add(12), add(13)]
        self.assertEqual(whys(copies, 4), [[0, 0, 0, 0, 0], [1, 1, 0, 0, 0], [0, 0, 0, 0, 0], [1, 1, 0, 1, 0]])
        self.assertEqual(last(*copies, hold(2), why(2)), [1, 0, 1, 0, 0])
        self.assertEqual(last(begin(10), add(1), why(0)), [1, 0, 0, 1, 0])
        self.assertEqual(last(begin(10), add(1), add(2, 1), why(0)), [1, 0, 0, 0, 1])

    def test_all_reasons_that_go_together(self):
        # The newest is needed by no other one, since none builds upon it yet.
        copies = [begin(10, (0, 2)), add(1), hold(0), add(2, 1), hold(1)]
        self.assertEqual(whys(copies, 2), [[1, 1, 1, 0, 1], [1, 1, 1, 1, 0]])

    def test_it_tells_of_now(self):
        told = ask(begin(10, (0, 1)), add(1), why(0), add(2), why(0), hold(0), why(0), hold(0, 0), why(0),
                   add(3, 1), why(0), add(4), why(0), FORGET, why(0))
        self.assertEqual(told[2::2], [[1, 1, 0, 1, 0], [0, 0, 0, 0, 0], [1, 0, 1, 0, 0], [0, 0, 0, 0, 0],
                                      [1, 0, 0, 0, 1], [0, 0, 0, 0, 0], -2])

    def test_one_that_is_wanted_by_none_is_not_kept_by_those_it_needs(self):
        copies = [begin(10), add(1), hold(0), add(2, 1), add(3)]
        self.assertEqual(whys(copies, 3), [[1, 0, 1, 0, 0], [0, 0, 0, 0, 0], [1, 0, 0, 1, 0]])

    def test_forget_takes_just_those_told_0(self):
        calls = [begin(100, (10, 2), (0, 2)), add(1), add(5), add(9, 2), add(11), add(15, 4), add(20), add(31), hold(0)]
        told = whys(calls, 7)
        staying = [k for k in range(7) if told[k][0] == 1]
        self.assertEqual(staying, [0, 5, 6])
        self.assertEqual(there(calls + [FORGET], 7), staying)
        self.assertEqual([told[k] for k in staying], whys(calls + [FORGET], 7)[:1] + whys(calls + [FORGET], 7)[5:])


class RulesTest(unittest.TestCase):

    def bits(self, rules, times):
        calls = [begin(1000, *rules)] + [add(time) for time in times]
        return [told[1] for told in whys(calls, len(times))]

    def test_no_rules(self):
        self.assertEqual(self.bits([], [1, 2, 3]), [0, 0, 0])

    def test_the_first_rule_is_bit_0(self):
        self.assertEqual(self.bits([(0, 2)], [1, 2, 3]), [0, 1, 1])
        self.assertEqual(self.bits([(0, 1), (0, 2)], [1, 2, 3]), [0, 2, 3])
        self.assertEqual(self.bits([(0, 2), (0, 1)], [1, 2, 3]), [0, 1, 3])

    def test_8_rules(self):
        rules = [(0, many) for many in (1, 2, 3, 4, 5, 6, 7, 8)]
        self.assertEqual(self.bits(rules, list(range(9))), [0, 128, 192, 224, 240, 248, 252, 254, 255])

    def test_each_of_8_rules_by_itself(self):
        for place in range(8):
            rules = [(0, 1)] * 8
            rules[place] = (0, 3)
            self.assertEqual(self.bits(rules, [1, 2, 3, 4]), [0, 1 << place, 1 << place, 255], place)

    def test_two_rules_alike(self):
        self.assertEqual(self.bits([(10, 2), (10, 2)], [1, 5, 12]), [0, 3, 3])
        self.assertEqual(self.bits([(10, 2), (0, 1), (10, 2)], [1, 5, 12]), [0, 5, 7])

    def test_the_newest_of_each_of_the_last_periods(self):
        times = [0, 3, 9, 10, 19, 20, 35, 36]
        self.assertEqual(self.bits([(10, 2), (10, 3), (20, 2), (0, 3)], times), [0, 0, 0, 0, 6, 11, 8, 15])

    def test_periods_that_have_none_do_not_count(self):
        self.assertEqual(self.bits([(10, 2), (10, 3)], [5, 9, 1000, 2 ** 31 - 1]), [0, 2, 3, 3])

    def test_long_periods(self):
        self.assertEqual(self.bits([(BIG, 64), (2 ** 31 - 1, 64)], [0, 2 ** 31 - 2, 2 ** 31 - 1]), [0, 2, 3])

    def test_64_periods(self):
        self.assertEqual(self.bits([(0, 64), (0, 63), (1, 64), (2, 64)], range(64))[:3], [5, 15, 7])

    def test_needed_or_held_is_not_kept_by_a_rule(self):
        calls = [begin(10, (0, 1)), add(1), add(2), hold(1), add(3, 1)]
        self.assertEqual([told[1] for told in whys(calls, 3)], [0, 0, 1])

    def test_one_that_is_needed_alone_is_kept_by_no_rule(self):
        calls = [begin(10, (10, 2)), add(1), add(2), add(15), add(21, 1)]
        self.assertEqual(whys(calls, 4), [[1, 0, 0, 0, 1], [0, 0, 0, 0, 0], [1, 1, 0, 0, 0], [1, 1, 0, 1, 0]])
        # With copy 1 gone, copy 0 is the newest of its period, but that is not one of the last two.
        self.assertEqual(last(*calls, FORGET, why(0)), [1, 0, 0, 0, 1])
        calls[0] = begin(10, (10, 3))
        self.assertEqual([told[1] for told in whys(calls, 4)], [0, 1, 1, 1])
        self.assertEqual(last(*calls, FORGET, why(0)), [1, 0, 0, 0, 1])

    def test_the_rules_are_those_of_the_last_begin(self):
        copies = [add(1), add(2), add(3)]
        self.assertEqual(last(begin(10, (0, 3)), begin(10), *copies, why(0)), [0, 0, 0, 0, 0])
        self.assertEqual(last(begin(10), begin(10, (5, 1), (0, 3)), *copies, why(0)), [1, 2, 0, 0, 0])
        self.assertEqual(last(begin(10, (0, 3)), *copies, begin(10, (0, 0)), why(0)), [1, 1, 0, 0, 0])


class HeldTest(unittest.TestCase):

    def test_held_and_not_held(self):
        copies = [begin(10), add(1), add(2), add(3)]
        self.assertEqual(last(*copies, hold(1), why(1)), [1, 0, 1, 0, 0])
        self.assertEqual(last(*copies, hold(1), why(0)), [0, 0, 0, 0, 0])
        self.assertEqual(last(*copies, hold(1), hold(1, 0), why(1)), [0, 0, 0, 0, 0])
        self.assertEqual(last(*copies, hold(1), hold(1), why(1)), [1, 0, 1, 0, 0])
        self.assertEqual(last(*copies, hold(1), hold(1, 2), why(1)), [1, 0, 1, 0, 0])
        self.assertEqual(last(*copies, hold(2), why(2)), [1, 0, 1, 1, 0])

    def test_held_after_forgetting_too(self):
        self.assertEqual(last(begin(10), add(1), hold(0), add(2), FORGET, why(0)), [1, 0, 1, 0, 0])

    def test_one_that_a_held_one_needs_is_not_held(self):
        self.assertEqual(last(begin(10), add(1), add(2, 1), hold(1), add(3), why(0)), [1, 0, 0, 0, 1])


class NewestTest(unittest.TestCase):

    def test_just_one_is_the_newest(self):
        copies = [begin(100, (0, 3))] + [add(time) for time in range(20)]
        self.assertEqual([told[3] for told in whys(copies, 20)], [0] * 19 + [1])

    def test_after_forgetting(self):
        told = ask(begin(10), add(1), add(2), FORGET, why(1), add(3), why(1), why(2))
        self.assertEqual(told[4:], [[1, 0, 0, 1, 0], 2, [0, 0, 0, 0, 0], [1, 0, 0, 1, 0]])

    def test_a_refused_one_is_not_the_newest(self):
        self.assertEqual(last(begin(1), add(1), add(2), why(0)), [1, 0, 0, 1, 0])


class NeededTest(unittest.TestCase):

    def needed(self, calls, many):
        return [told[4] for told in whys(calls, many)]

    def test_the_copy_itself_does_not_count(self):
        self.assertEqual(last(begin(10), add(1), why(0)), [1, 0, 0, 1, 0])
        self.assertEqual(last(begin(10, (0, 1)), add(1), hold(0), why(0)), [1, 1, 1, 1, 0])
        self.assertEqual(self.needed([begin(10, (0, 3)), add(1), add(2), add(3)], 3), [0, 0, 0])

    def test_one_that_is_wanted_itself_may_be_needed_too(self):
        calls = [begin(10, (0, 3)), add(1), add(2, 1), add(3, 2)]
        self.assertEqual(self.needed(calls, 3), [1, 1, 0])
        self.assertEqual(self.needed([begin(10), add(1), hold(0), add(2, 1)], 2), [1, 0])

    def test_through_others(self):
        calls = [begin(10), add(1), add(2, 1), add(3, 2), add(4, 3)]
        self.assertEqual(self.needed(calls, 4), [1, 1, 1, 0])
        self.assertEqual(self.needed(calls + [add(5)], 5), [0, 0, 0, 0, 0])
        self.assertEqual(self.needed(calls + [hold(2), add(5)], 5), [1, 1, 0, 0, 0])

    def test_through_a_wanted_one_and_one_that_is_not(self):
        calls = [begin(10), add(1), add(2, 1), hold(1), add(3, 2), add(4, 3), add(5)]
        self.assertEqual(whys(calls, 5), [[1, 0, 0, 0, 1], [1, 0, 1, 0, 0], [0, 0, 0, 0, 0], [0, 0, 0, 0, 0],
                                          [1, 0, 0, 1, 0]])

    def test_one_that_is_not_wanted_does_not_count(self):
        calls = [begin(10), add(1), hold(0), add(2, 1), add(3, 1), add(4)]
        self.assertEqual(self.needed(calls, 4), [0, 0, 0, 0])
        self.assertEqual(self.needed(calls + [hold(1)], 4), [1, 0, 0, 0])
        self.assertEqual(self.needed(calls + [hold(1), hold(1, 0)], 4), [0, 0, 0, 0])

    def test_a_rule_wants_the_one_that_needs_it(self):
        calls = [begin(10, (0, 2)), add(1), add(2), add(3, 1), add(4)]
        self.assertEqual(whys(calls, 4), [[1, 0, 0, 0, 1], [0, 0, 0, 0, 0], [1, 1, 0, 0, 0], [1, 1, 0, 1, 0]])

    def test_a_chain_of_64(self):
        calls = [begin(64)] + [add(k, k) for k in range(64)]
        self.assertEqual(whys(calls, 64), [[1, 0, 0, 0, 1]] * 63 + [[1, 0, 0, 1, 0]])
        calls[0] = begin(64, (0, 1), (0, 64))
        self.assertEqual(whys(calls, 64), [[1, 2, 0, 0, 1]] * 63 + [[1, 3, 0, 1, 0]])

    def test_needed_is_what_is_in_another_wanted_one_s_chain(self):
        calls = [begin(100, (10, 3)), add(1), add(4, 1), add(7), add(12, 2), add(19, 3), add(23, 4), add(31, 1)]
        calls.append(hold(2))
        told = whys(calls, 7)
        wanted = [k for k in range(7) if told[k][1:4] != [0, 0, 0]]
        self.assertEqual(wanted, [2, 4, 5, 6])
        chains = {k: last(*calls, back(k))[1:] for k in wanted}
        for k in range(7):
            self.assertEqual(told[k][4], int(any(k in chains[j] for j in wanted if j != k)), k)


class NoCopyTest(unittest.TestCase):

    def test_a_number_that_never_was(self):
        for k in (2, 3, 63, 64, 65, 2 ** 31, BIG - 1, BIG):
            self.assertEqual(last(begin(10, (0, 1)), add(1), add(2, 1), why(k)), -2, k)

    def test_a_number_that_is_gone(self):
        told = ask(begin(10), add(1), add(2), why(0), FORGET, why(0), why(1), add(3), why(0))
        self.assertEqual(told[3:], [[0, 0, 0, 0, 0], [1, 1], -2, [1, 0, 0, 1, 0], 2, -2])

    def test_no_copies(self):
        for k in (0, 1, BIG):
            self.assertEqual(ask(begin(10, (0, 1)), why(k)), [0, -2], k)
            self.assertEqual(ask(begin(10), why(k)), [0, -2], k)

    def test_begun_anew(self):
        self.assertEqual(last(begin(10), add(1), hold(0), begin(10), why(0)), -2)
        self.assertEqual(last(begin(10), add(1), hold(0), begin(10), add(1), why(0)), [1, 0, 0, 1, 0])


if __name__ == "__main__":
    unittest.main()
