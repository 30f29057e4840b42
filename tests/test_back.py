import unittest

from helper import FORGET, add, ask, back, begin, hold, last

BIG = 2 ** 32 - 1


class BackTest(unittest.TestCase):

    def test_one_that_stands_by_itself(self):
        copies = [begin(10), add(1), add(2)]
        self.assertEqual(last(*copies, back(0)), [1, 0])
        self.assertEqual(last(*copies, back(1)), [1, 1])

    def test_a_chain_from_the_one_that_stands_by_itself_on(self):
        copies = [begin(10), add(1), add(2), add(3, 1), add(4, 2), add(5, 3), add(6, 5)]
        self.assertEqual(last(*copies, back(5)), [4, 0, 2, 4, 5])
        self.assertEqual(last(*copies, back(4)), [3, 0, 2, 4])
        self.assertEqual(last(*copies, back(3)), [2, 1, 3])
        self.assertEqual(last(*copies, back(2)), [2, 0, 2])

    def test_those_that_build_upon_it_are_not_in_it(self):
        copies = [begin(10), add(1), add(2, 1), add(3, 1), add(4, 2), add(5, 2)]
        self.assertEqual(last(*copies, back(0)), [1, 0])
        self.assertEqual(last(*copies, back(1)), [2, 0, 1])
        self.assertEqual(last(*copies, back(2)), [2, 0, 2])
        self.assertEqual(last(*copies, back(4)), [3, 0, 1, 4])

    def test_a_chain_of_64(self):
        copies = [begin(64)] + [add(k, k) for k in range(64)]
        self.assertEqual(last(*copies, back(63)), [64] + list(range(64)))
        self.assertEqual(last(*copies, back(62)), [63] + list(range(63)))
        self.assertEqual(last(*copies, back(0)), [1, 0])
        self.assertEqual(last(*copies, FORGET, back(63)), [64] + list(range(64)))

    def test_a_chain_that_stays_only_because_it_is_needed(self):
        copies = [begin(10), add(1), add(2), add(3, 1), add(4), add(5, 3), FORGET]
        told = ask(*copies, back(4), back(2), back(0), back(1), back(3))
        self.assertEqual(told[6:], [[2, 2], [3, 0, 2, 4], [2, 0, 2], [1, 0], -2, -2])

    def test_a_chain_with_high_numbers(self):
        calls = [begin(10)]
        for time in range(200):
            calls.extend([add(time), FORGET])
        calls.extend([add(200, 200), add(201, 201), FORGET, back(201), back(199), back(0)])
        self.assertEqual(ask(*calls)[-3:], [[3, 199, 200, 201], [1, 199], -2])

    def test_neither_rules_nor_holding_count(self):
        for rules in ([], [(0, 1)], [(0, 64)], [(10, 2)] * 8):
            copies = [begin(10, *rules), add(1), add(2, 1), add(3), hold(0), add(4, 2), hold(2)]
            self.assertEqual(last(*copies, back(3)), [3, 0, 1, 3], rules)


class NoCopyTest(unittest.TestCase):

    def test_a_number_that_never_was(self):
        for k in (2, 3, 63, 64, 65, 2 ** 31, BIG - 1, BIG):
            self.assertEqual(last(begin(10), add(1), add(2, 1), back(k)), -2, k)

    def test_a_number_that_is_gone(self):
        told = ask(begin(10), add(1), add(2), FORGET, back(0), back(1), add(3), back(0), back(2))
        self.assertEqual(told[3:], [[1, 1], -2, [1, 1], 2, -2, [1, 2]])

    def test_a_number_whose_copy_was_refused(self):
        self.assertEqual(ask(begin(2), add(1), add(1), back(1), add(2, 0, 2), back(1))[2:], [-13, -2, -28, -2])

    def test_no_copies(self):
        for k in (0, 1, BIG):
            self.assertEqual(ask(begin(10), back(k)), [0, -2], k)

    def test_begun_anew(self):
        self.assertEqual(ask(begin(10), add(1), add(2, 1), begin(10), back(0), back(1))[3:], [0, -2, -2])
        self.assertEqual(last(begin(10), add(1), add(2, 1), begin(10), add(1), add(2), back(1)), [1, 1])
        self.assertEqual(last(begin(10), add(1), add(2, 1), begin(0), back(1)), [2, 0, 1])


if __name__ == "__main__":
    unittest.main()
