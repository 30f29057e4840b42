import unittest

from helper import FORGET, add, ask, begin, difference, hold, last, there

BIG = 2 ** 32 - 1
ROOM = 1000000000


class AddTest(unittest.TestCase):

    def test_numbers_rise_from_0(self):
        self.assertEqual(ask(begin(10), add(0), add(1), add(9, 1), add(10, 3)), [0, 0, 1, 2, 3])

    def test_time_at_its_edges(self):
        for time in (0, 1, 2 ** 31 - 1):
            self.assertEqual(last(begin(10), add(time)), 0, time)
        for time in (2 ** 31, 2 ** 31 + 1, BIG):
            self.assertEqual(last(begin(10), add(time)), -22, time)

    def test_size_at_its_edges(self):
        for size in (1, 2, 999999, 1000000):
            self.assertEqual(last(begin(ROOM), add(5, 0, size)), 0, size)
        for size in (0, 1000001, BIG):
            self.assertEqual(last(begin(ROOM), add(5, 0, size)), -22, size)

    def test_times_alike_or_earlier(self):
        told = ask(begin(10), add(7), add(7), add(6), add(0), add(8), add(8), add(7))
        self.assertEqual(told, [0, 0, -13, -13, -13, 1, -13, -13])

    def test_the_newest_time_counts_after_forgetting_too(self):
        told = ask(begin(10), add(5), add(9), FORGET, add(9), add(6), add(10))
        self.assertEqual(told, [0, 0, 1, [1, 1], -13, -13, 2])

    def test_upon_at_its_edges(self):
        copies = [begin(10), add(1), add(2)]
        for upon in (0, 1, 2):
            self.assertEqual(last(*copies, add(3, upon)), 2, upon)
        for upon in (3, 4, 64, 65, BIG):
            self.assertEqual(last(*copies, add(3, upon)), -2, upon)

    def test_the_first_one_has_none_to_build_upon(self):
        self.assertEqual(ask(begin(10), add(1, 1), add(1, BIG), add(1, 0)), [0, -2, -2, 0])

    def test_upon_a_number_that_is_gone(self):
        told = ask(begin(10), add(1), add(2), FORGET, add(3, 1), add(3, 2))
        self.assertEqual(told, [0, 0, 1, [1, 1], -2, 2])

    def test_64_copies(self):
        copies = [begin(ROOM, (0, 63))] + [add(time) for time in range(64)]
        told = ask(*copies, add(64), add(64, 64), FORGET, add(64), add(65), FORGET)
        self.assertEqual(told[1:65], list(range(64)))
        self.assertEqual(told[65:], [-12, -12, [1, 1], 64, -12, [1, 1]])

    def test_64_copies_are_a_count_not_a_number(self):
        calls = [begin(ROOM)]
        for time in range(300):
            calls.extend([add(time), FORGET])
        told = ask(*calls)
        self.assertIsNone(difference(told[1::2], list(range(300))))
        self.assertIsNone(difference(told[2::2], [[0, 0]] + [[1, 1]] * 299))

    def test_room_just_full(self):
        told = ask(begin(10), add(1, 0, 4), add(2, 0, 7), add(2, 0, 6), add(3, 0, 1))
        self.assertEqual(told, [0, 0, -28, 1, -28])
        self.assertEqual(ask(begin(1), add(1, 0, 2), add(1, 0, 1), add(2, 0, 1)), [0, -28, 0, -28])

    def test_room_is_free_again_after_forgetting(self):
        told = ask(begin(10), add(1, 0, 4), add(2, 0, 6), FORGET, add(3, 0, 5), add(3, 0, 4), add(4))
        self.assertEqual(told, [0, 0, 1, [1, 4], -28, 2, -28])

    def test_64_of_the_biggest_have_room(self):
        calls = [begin(64000000)] + [add(time, 0, 1000000) for time in range(64)]
        self.assertEqual(ask(*calls)[1:], list(range(64)))
        calls[0] = begin(63999999)
        self.assertEqual(ask(*calls)[1:], list(range(63)) + [-28])

    def test_it_is_not_held(self):
        self.assertEqual(last(begin(10), add(1), hold(0), add(2), add(3), FORGET), [1, 1])


class WhichRefusalTest(unittest.TestCase):

    def setUp(self):
        self.full = [begin(64)] + [add(time) for time in range(64)]

    def test_a_wrong_value_is_ahead_of_all(self):
        self.assertEqual(last(*self.full, add(2 ** 31, 99, 9)), -22)
        self.assertEqual(last(*self.full, add(5, 99, 0)), -22)
        self.assertEqual(last(*self.full, add(5, 99, 1000001)), -22)
        self.assertEqual(last(begin(10), add(1), add(1, 0, 1000001)), -22)
        self.assertEqual(last(begin(10), add(1, 5, 0)), -22)
        self.assertEqual(last(begin(10), add(2 ** 31, 5, 1)), -22)

    def test_not_later_is_ahead_of_no_such_copy(self):
        self.assertEqual(last(begin(10), add(1), add(1, 9)), -13)
        self.assertEqual(last(*self.full, add(63, 99)), -13)
        self.assertEqual(last(*self.full, add(63)), -13)
        self.assertEqual(last(begin(1), add(1), add(1)), -13)

    def test_no_such_copy_is_ahead_of_64(self):
        self.assertEqual(last(*self.full, add(64, 65)), -2)
        self.assertEqual(last(begin(1), add(1), add(2, 2)), -2)

    def test_64_is_ahead_of_room(self):
        self.assertEqual(last(*self.full, add(64)), -12)
        self.assertEqual(last(*self.full, add(64, 64)), -12)


class RefusedAddTest(unittest.TestCase):

    def test_it_changes_nothing(self):
        before = [begin(10, (0, 1)), add(5, 0, 3), add(6, 0, 3), FORGET]
        refused = [(add(2 ** 31), -22), (add(9, 0, 0), -22), (add(9, 0, 1000001), -22), (add(6), -13),
                   (add(9, 1), -2), (add(9, 3), -2), (add(9, 0, 8), -28)]
        after = [add(7, 2, 7), add(8), FORGET]
        asked = ask(*before, *after)
        self.assertEqual(asked[4:], [2, -28, [0, 0]])
        for call, refusal in refused:
            self.assertEqual(ask(*before, call, *after), asked[:4] + [refusal] + asked[4:], call)

    def test_the_65th_changes_nothing(self):
        full = [begin(100)] + [add(time) for time in range(64)]
        self.assertEqual(there(full + [add(64)], 66), list(range(64)))
        self.assertEqual(last(*full, add(70), FORGET, add(64)), 64)


if __name__ == "__main__":
    unittest.main()
