"""Many made lines against the document's words, written down as plainly as can be."""

import random
import unittest

from forgetkeeper.keeper import answers
from helper import FORGET, add, ask, begin, difference, hold, there

REFUSALS = (-22, -13, -2, -12, -28)


def kept_by(rule, times):
    length, many = rule
    newest = {}
    for time in times:
        period = ("own", time) if length == 0 else ("of", time // length)
        newest[period] = max(time, newest.get(period, 0))
    # The later of two periods is the one with the later newest time.
    return set(sorted(newest.values(), reverse=True)[:many])


def needs(copies, some):
    found = set(some)
    while True:
        more = {copies[k]["upon"] - 1 for k in found if copies[k]["upon"]} - found
        if not more:
            return found
        found |= more


class Words:

    def __init__(self):
        self.room, self.rules, self.copies, self.coming = None, None, {}, 0

    def answer(self, call):
        return (self.begin, self.add, self.hold, self.forget)[call[0]](*call[1:])

    def begin(self, room, many, *numbers):
        rules = list(zip(numbers[::2], numbers[1::2]))
        if not 1 <= room <= 10 ** 9 or len(rules) > 8 or [r for r in rules if not 1 <= r[1] <= 64]:
            return -22
        self.room, self.rules, self.copies, self.coming = room, rules, {}, 0
        return 0

    def add(self, time, upon, size):
        if time >= 2 ** 31 or not 1 <= size <= 10 ** 6:
            return -22
        if [one for one in self.copies.values() if one["time"] >= time]:
            return -13
        if upon != 0 and upon - 1 not in self.copies:
            return -2
        if len(self.copies) == 64:
            return -12
        if sum(one["size"] for one in self.copies.values()) + size > self.room:
            return -28
        self.copies[self.coming] = {"time": time, "upon": upon, "size": size, "held": False}
        self.coming += 1
        return self.coming - 1

    def hold(self, k, on):
        if on > 1:
            return -22
        if k not in self.copies:
            return -2
        self.copies[k]["held"] = bool(on)
        return 0

    def forget(self):
        times = [one["time"] for one in self.copies.values()]
        wanted = {k for k, one in self.copies.items() if one["held"] or one["time"] == max(times)}
        for rule in self.rules:
            wanted |= {k for k, one in self.copies.items() if one["time"] in kept_by(rule, times)}
        gone = set(self.copies) - needs(self.copies, wanted)
        size = sum(self.copies.pop(k)["size"] for k in gone)
        return [len(gone), size]


def made_rules(chance):
    many = chance.choice((0, 1, 1, 2, 3, 8))
    return [(chance.choice((0, 1, 3, 10, 10, 60, 2 ** 32 - 1)), chance.choice((1, 2, 3, 5, 64))) for k in range(many)]


def made_begin(chance):
    call = begin(chance.choice((1, 20, 200, 10 ** 9)), *made_rules(chance))
    wrong = chance.randrange(12)
    if wrong == 0:
        return begin(chance.choice((0, 10 ** 9 + 1)), *made_rules(chance))
    if wrong == 1:
        return begin(50, *made_rules(chance), (5, chance.choice((0, 65))))
    if wrong == 2:
        return begin(50, *[(5, 2)] * 9)
    return call


def made_add(chance, words):
    newest = max([one["time"] for one in words.copies.values()], default=0)
    time = newest + chance.choice((0, 1, 1, 2, 3, 5, 9, 14, 60))
    near = chance.randint(max(0, words.coming - 8), words.coming + 1)
    upon = chance.choice((0, near, near, chance.choice(list(words.copies) or [0]) + 1))
    size = chance.choice((1, 1, 1, 2, 3, 7, 19))
    if chance.randrange(25) == 0:
        size = chance.choice((0, 10 ** 6, 10 ** 6 + 1))
    if chance.randrange(40) == 0:
        time = 2 ** 31
    return add(time, upon, size)


def made_line(chance, many, anew=60):
    """Calls and what the words answer: begin first, up to one that's answered 0."""
    words = Words()
    calls, told = [], []
    forgetting = chance.choice((2, 10, 60))
    while len(calls) < many:
        if words.rules is None or (anew and chance.randrange(anew) == 0):
            call = made_begin(chance)
        elif chance.randrange(forgetting) == 0:
            call = FORGET
        elif chance.randrange(4) == 0:
            on = 2 if chance.randrange(20) == 0 else chance.randrange(2)
            call = hold(chance.randint(max(0, words.coming - 20), words.coming), on)
        else:
            call = made_add(chance, words)
        calls.append(call)
        told.append(words.answer(call))
    return calls, told


class WordsTest(unittest.TestCase):

    def test_made_lines(self):
        met = set()
        for seed in range(300):
            calls, told = made_line(random.Random(seed), 150)
            self.assertIsNone(difference(ask(*calls), told), seed)
            met |= {number for number in told if number in REFUSALS}
        self.assertEqual(met, set(REFUSALS))

    def test_long_chains_of_64(self):
        for seed in range(40):
            calls, told = made_line(random.Random(1000 + seed), 400, 0)
            self.assertIsNone(difference(ask(*calls), told), seed)

    def test_what_is_refused_changes_nothing(self):
        for seed in range(200):
            calls, told = made_line(random.Random(2000 + seed), 120)
            answered = [k for k in range(len(calls)) if told[k] not in REFUSALS]
            if answered:
                again = ask(*[calls[k] for k in answered])
                self.assertIsNone(difference(again, [told[k] for k in answered]), seed)

    def test_nothing_lacks_what_it_builds_upon(self):
        for seed in range(60):
            calls, told = made_line(random.Random(3000 + seed), 60, 0)
            if 0 not in told:
                continue
            upon = {told[k]: calls[k][2] for k in range(len(calls)) if calls[k][0] == 1}
            staying = there(calls, 60)
            for k in staying:
                self.assertTrue(upon[k] == 0 or upon[k] - 1 in staying, (seed, k))


class StepByStepTest(unittest.TestCase):

    def made(self, chance):
        """A line that forgets now and then, in which nothing is refused."""
        words = Words()
        calls = [begin(10 ** 9, *made_rules(chance))]
        words.answer(calls[0])
        while words.coming < 40:
            kept = sorted(words.copies) or [0]
            call = made_add(chance, words)
            if words.coming and chance.randrange(5) == 0:
                call = hold(chance.choice(kept), chance.randrange(2))
            if chance.randrange(6) == 0:
                call = FORGET
            if words.answer(call) not in REFUSALS:
                calls.append(call)
        return calls

    def test_the_same_is_left(self):
        for seed in range(150):
            steps = self.made(random.Random(4000 + seed))
            once = [call for call in steps if call != FORGET]
            left = []
            for calls in (steps + [FORGET], once + [FORGET]):
                self.assertEqual([k for k in ask(*calls) if k in REFUSALS], [], seed)
                left.append(there(calls, 40))
            self.assertEqual(left[0], left[1], seed)

    def test_forgotten_twice_is_forgotten_once(self):
        for seed in range(50):
            calls = self.made(random.Random(5000 + seed)) + [FORGET]
            self.assertEqual(ask(*calls, FORGET)[-1], [0, 0], seed)
            self.assertEqual(there(calls, 40), there(calls + [FORGET], 40), seed)

    def test_the_newest_and_those_held_stay(self):
        for seed in range(50):
            calls = self.made(random.Random(6000 + seed))
            held = {call[1]: call[2] for call in calls if call[0] == 2}
            staying = there(calls + [FORGET], 40)
            self.assertIn(39, staying)
            for k in held:
                self.assertTrue(held[k] == 0 or k in staying, (seed, k))


class InterfaceTest(unittest.TestCase):

    def test_counts_stand_ahead_of_the_answers(self):
        calls = begin(0) + begin(9, (0, 1), (60, 2)) + add(5, 0, 4) + add(5) + add(6) + add(70) + FORGET + hold(9)
        calls = calls + hold(2, 2) + hold(2) + FORGET
        told = [1, -22, 1, 0, 1, 0, 1, -13, 1, 1, 1, 2, 2, 1, 4, 1, -2, 1, -22, 1, 0, 2, 0, 0]
        self.assertEqual(answers(calls), told)

    def test_the_list_is_as_it_was_and_told_twice_the_same(self):
        for seed in range(30):
            calls = [number for call in made_line(random.Random(7000 + seed), 100)[0] for number in call]
            before = list(calls)
            told = answers(calls)
            self.assertIsNone(difference(calls, before))
            again = answers(calls)
            self.assertIsNone(difference(calls, before))
            self.assertIsNone(difference(again, told))
            self.assertIsNone(difference(answers(list(before)), told))

    def test_what_was_told_is_not_kept(self):
        calls = begin(9, (0, 1)) + add(1) + add(2) + FORGET
        told = answers(calls)
        told.append(99)
        self.assertEqual(answers(calls), [1, 0, 1, 0, 1, 1, 2, 1, 1])

    def test_the_list_is_not_changed_for_a_while_either(self):
        class Watched(list):
            def refuse(self, *others):
                raise AssertionError("the list handed in was changed")
            append = extend = insert = pop = remove = clear = reverse = sort = refuse
            __setitem__ = __delitem__ = __iadd__ = __imul__ = refuse
        calls = begin(9, (0, 1)) + add(1) + add(2) + hold(0) + FORGET
        self.assertEqual(answers(Watched(calls)), answers(calls))

    def test_whole_numbers_in_a_list(self):
        told = answers(begin(9) + add(1) + hold(0) + hold(0, 0) + add(2) + FORGET)
        self.assertIs(type(told), list)
        self.assertEqual({type(number) for number in told}, {int})

    def test_5000_calls(self):
        calls = [begin(10 ** 9, *[(k * 7, 8) for k in range(8)])]
        for k in range(2499):
            calls.extend([add(3 * k, 0, 1000), FORGET])
        calls.append(hold(2498))
        self.assertEqual(len(calls), 4999 + 1)
        told = ask(*calls)
        self.assertIsNone(difference(told[1:-1:2], list(range(2499))))
        self.assertEqual(told[-1], 0)

    def test_the_longest_rows_of_rules(self):
        calls = [begin(5, *[(2 ** 32 - 1, 2 ** 32 - 1)] * 30)] * 400 + [begin(5)]
        self.assertIsNone(difference(ask(*calls), [-22] * 400 + [0]))


if __name__ == "__main__":
    unittest.main()
