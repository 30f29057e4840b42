import unittest

from helper import FORGET, LIST, STATE, add, ask, back, begin, hold, last, looks, why

BIG = 2 ** 32 - 1


class ListTest(unittest.TestCase):

    def test_no_copies(self):
        self.assertEqual(ask(begin(10), LIST, LIST), [0, 0, 0])
        self.assertEqual(ask(begin(0), begin(10, (0, 1)), LIST), [-22, 0, 0])

    def test_number_time_and_what_it_builds_upon(self):
        copies = [begin(100), add(0, 0, 7), add(5, 1, 8), add(6, 0, 9), add(2 ** 31 - 1, 2, 9)]
        self.assertEqual(last(*copies, LIST), [4, 0, 0, 0, 1, 5, 1, 2, 6, 0, 3, 2 ** 31 - 1, 2])

    def test_behind_each_add(self):
        told = ask(begin(9), LIST, add(3), LIST, add(3), LIST, add(4, 1), LIST, add(5, 9), LIST)
        self.assertEqual(told[1::2], [0, [1, 0, 3, 0], [1, 0, 3, 0], [2, 0, 3, 0, 1, 4, 1], [2, 0, 3, 0, 1, 4, 1]])

    def test_behind_hold(self):
        copies = [begin(9), add(3), add(4, 1)]
        asked = [2, 0, 3, 0, 1, 4, 1]
        for call in (hold(0), hold(1), hold(0, 0), hold(0, 2), hold(2)):
            self.assertEqual(last(*copies, call, LIST), asked, call)

    def test_behind_forget(self):
        copies = [begin(9), add(3), add(4), add(5, 1), add(6), add(7, 3), FORGET]
        self.assertEqual(last(*copies, LIST), [3, 0, 3, 0, 2, 5, 1, 4, 7, 3])
        self.assertEqual(last(*copies, FORGET, LIST), [3, 0, 3, 0, 2, 5, 1, 4, 7, 3])
        self.assertEqual(last(*copies, add(8, 5), LIST), [4, 0, 3, 0, 2, 5, 1, 4, 7, 3, 5, 8, 5])
        self.assertEqual(last(*copies, add(8), FORGET, LIST), [1, 5, 8, 0])

    def test_behind_a_second_begin(self):
        copies = [begin(9), add(3), add(4, 1)]
        self.assertEqual(last(*copies, begin(9), LIST), 0)
        self.assertEqual(last(*copies, begin(9), add(1), LIST), [1, 0, 1, 0])
        self.assertEqual(last(*copies, begin(0), LIST), [2, 0, 3, 0, 1, 4, 1])

    def test_64_copies(self):
        copies = [begin(64)] + [add(3 * k, k // 2) for k in range(64)]
        asked = [64] + [number for k in range(64) for number in (k, 3 * k, k // 2)]
        self.assertEqual(last(*copies, LIST), asked)
        self.assertEqual(last(*copies, add(500), LIST), asked)


class StateTest(unittest.TestCase):

    def test_no_copies(self):
        self.assertEqual(ask(begin(10), STATE, STATE), [0, [0, 0, 0], [0, 0, 0]])
        self.assertEqual(ask(begin(0), begin(10, (0, 1)), STATE), [-22, 0, [0, 0, 0]])

    def test_how_many_how_big_and_the_next_number(self):
        told = ask(begin(100), add(1, 0, 40), STATE, add(2, 1, 7), STATE, add(3, 0, 53), STATE, add(4), STATE)
        self.assertEqual(told[2::2], [[1, 40, 1], [2, 47, 2], [3, 100, 3], [3, 100, 3]])

    def test_behind_hold(self):
        for call in (hold(0), hold(0, 0), hold(0, 2), hold(5)):
            self.assertEqual(last(begin(100), add(1, 0, 40), call, STATE), [1, 40, 1], call)

    def test_behind_forget(self):
        copies = [begin(100), add(1, 0, 40), add(2, 0, 9), add(3, 1, 3), FORGET]
        self.assertEqual(last(*copies, STATE), [2, 43, 3])
        self.assertEqual(last(*copies, FORGET, STATE), [2, 43, 3])
        self.assertEqual(last(*copies, add(4, 0, 5), STATE), [3, 48, 4])
        self.assertEqual(last(*copies, add(4, 0, 5), FORGET, STATE), [1, 5, 4])

    def test_behind_a_second_begin(self):
        copies = [begin(100), add(1, 0, 40), add(2, 0, 9)]
        self.assertEqual(last(*copies, begin(7), STATE), [0, 0, 0])
        self.assertEqual(last(*copies, begin(7), add(1, 0, 2), STATE), [1, 2, 1])
        self.assertEqual(last(*copies, begin(7, (1, 65)), STATE), [2, 49, 2])

    def test_64_of_the_biggest(self):
        copies = [begin(1000000000)] + [add(time, 0, 1000000) for time in range(64)]
        self.assertEqual(last(*copies, STATE), [64, 64000000, 64])
        self.assertEqual(last(*copies, FORGET, STATE), [1, 1000000, 64])


class NumbersGoOnTest(unittest.TestCase):

    def test_numbers_that_are_gone_are_not_used_again(self):
        told = ask(begin(9), add(1), add(2), add(3), FORGET, STATE, LIST, add(4), STATE, LIST, FORGET, STATE, LIST)
        self.assertEqual(told[4:], [[2, 2], [1, 1, 3], [1, 2, 3, 0], 3, [2, 2, 4], [2, 2, 3, 0, 3, 4, 0],
                                    [1, 1], [1, 1, 4], [1, 3, 4, 0]])

    def test_refused_ones_take_no_number(self):
        told = ask(begin(2), add(1), add(1), add(2, 5), add(2, 0, 2), add(2, 0, 0), STATE, add(2), STATE)
        self.assertEqual(told[2:], [-13, -2, -28, -22, [1, 1, 1], 1, [2, 2, 2]])

    def test_the_next_number_goes_past_64(self):
        calls = [begin(9, (0, 2))]
        for time in range(300):
            calls.extend([add(time), FORGET])
        self.assertEqual(last(*calls, STATE), [2, 2, 300])
        self.assertEqual(last(*calls, LIST), [2, 298, 298, 0, 299, 299, 0])
        self.assertEqual(last(*calls, add(300, 299), back(300)), [2, 298, 300])


class OnlyLooksTest(unittest.TestCase):

    def test_they_change_nothing(self):
        line = [begin(12, (10, 2), (0, 1)), add(1, 0, 2), add(4), add(9, 1), hold(1), add(15, 2), add(16), FORGET,
                hold(1, 0), add(21, 3), add(21), add(22, 2), FORGET, add(30, 9), add(31, 0, 9), add(31), FORGET,
                begin(0), hold(7), begin(3), add(1), add(2, 1), add(3), add(4), FORGET]
        asked = ask(*line)
        seeing = looks(9)
        told = ask(line[0], *[call for other in line[1:] for call in seeing + [other]])
        self.assertEqual(told[::len(seeing) + 1], asked)

    def test_asked_twice_the_same(self):
        line = [begin(12, (10, 2)), add(1), add(4), add(9, 1), hold(1), add(15, 2), FORGET]
        seeing = looks(6)
        told = ask(*line, *seeing, *seeing, *reversed(seeing))[len(line):]
        many = len(seeing)
        self.assertEqual(told[:many], told[many:2 * many])
        self.assertEqual(told[:many], told[:2 * many - 1:-1])


class WholeNumbersTest(unittest.TestCase):

    def test_numbers_are_int_never_bool(self):
        told = ask(begin(9, (0, 1)), add(1), hold(0), add(2, 1), back(1), why(0), why(1), LIST, STATE)
        for part in told[4:]:
            self.assertEqual({type(number) for number in part}, {int}, part)


if __name__ == "__main__":
    unittest.main()
