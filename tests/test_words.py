"""Many made lines against the document's words, written down as plainly as can be."""

import random
import unittest

from forgetkeeper.keeper import answers
from helper import FORGET, LIST, STATE, add, ask, back, begin, difference, hold, looks, there, why

REFUSALS = (-22, -13, -2, -12, -28)


def kept_by(rule, times):
    length, many = rule
    newest = {}
    for time in times:
        period = ("own", time) if length == 0 else ("of", time // length)
        newest[period] = max(time, newest.get(period, 0))
    # The later of two periods is the one with the later newest time.
    return set(sorted(newest.values(), reverse=True)[:many])


def needs(copies, some):
    found = set(some)
    while True:
        more = {copies[k]["upon"] - 1 for k in found if copies[k]["upon"]} - found
        if not more:
            return found
        found |= more


class Words:

    def __init__(self):
        self.room, self.rules, self.copies, self.coming = None, None, {}, 0

    def answer(self, call):
        kinds = (self.begin, self.add, self.hold, self.forget, self.back, self.why, self.listed, self.state)
        told = kinds[call[0]](*call[1:])
        return told[0] if isinstance(told, list) and len(told) == 1 else told

    def begin(self, room, many, *numbers):
        rules = list(zip(numbers[::2], numbers[1::2]))
        if not 1 <= room <= 10 ** 9 or len(rules) > 8 or [r for r in rules if not 1 <= r[1] <= 64]:
            return -22
        self.room, self.rules, self.copies, self.coming = room, rules, {}, 0
        return 0

    def add(self, time, upon, size):
        if time >= 2 ** 31 or not 1 <= size <= 10 ** 6:
            return -22
        if [one for one in self.copies.values() if one["time"] >= time]:
            return -13
        if upon != 0 and upon - 1 not in self.copies:
            return -2
        if len(self.copies) == 64:
            return -12
        if sum(one["size"] for one in self.copies.values()) + size > self.room:
            return -28
        self.copies[self.coming] = {"time": time, "upon": upon, "size": size, "held": False}
        self.coming += 1
        return self.coming - 1

    def hold(self, k, on):
        if on > 1:
            return -22
        if k not in self.copies:
            return -2
        self.copies[k]["held"] = bool(on)
        return 0

    def kept(self, rule):
        kept = kept_by(rule, [one["time"] for one in self.copies.values()])
        return {k for k, one in self.copies.items() if one["time"] in kept}

    def wanted(self):
        wanted = {k for k, one in self.copies.items() if one["held"] or k == max(self.copies)}
        return wanted.union(*[self.kept(rule) for rule in self.rules])

    def forget(self):
        gone = set(self.copies) - needs(self.copies, self.wanted())
        size = sum(self.copies.pop(k)["size"] for k in gone)
        return [len(gone), size]

    def back(self, k):
        if k not in self.copies:
            return -2
        chain = [k]
        while self.copies[chain[0]]["upon"]:
            chain.insert(0, self.copies[chain[0]]["upon"] - 1)
        return [len(chain)] + chain

    def why(self, k):
        if k not in self.copies:
            return -2
        bits = sum(2 ** r for r in range(len(self.rules)) if k in self.kept(self.rules[r]))
        needing = [j for j in self.wanted() if j != k and k in needs(self.copies, [j])]
        stays = k in self.wanted() or needing != []
        return [int(stays), bits, int(self.copies[k]["held"]), int(k == max(self.copies)), int(needing != [])]

    def listed(self):
        rows = [[k, self.copies[k]["time"], self.copies[k]["upon"]] for k in sorted(self.copies)]
        return [len(rows)] + [number for row in rows for number in row]

    def state(self):
        return [len(self.copies), sum(one["size"] for one in self.copies.values()), self.coming]


def made_rules(chance):
    many = chance.choice((0, 1, 1, 2, 3, 8))
    return [(chance.choice((0, 1, 3, 10, 10, 60, 2 ** 32 - 1)), chance.choice((1, 2, 3, 5, 64))) for k in range(many)]


def made_begin(chance):
    call = begin(chance.choice((1, 20, 200, 10 ** 9)), *made_rules(chance))
    wrong = chance.randrange(12)
    if wrong == 0:
        return begin(chance.choice((0, 10 ** 9 + 1)), *made_rules(chance))
    if wrong == 1:
        return begin(50, *made_rules(chance), (5, chance.choice((0, 65))))
    if wrong == 2:
        return begin(50, *[(5, 2)] * 9)
    return call


def made_add(chance, words, chained=False):
    newest = max([one["time"] for one in words.copies.values()], default=0)
    time = newest + chance.choice((0, 1, 1, 2, 3, 5, 9, 14, 60))
    near = chance.randint(max(0, words.coming - 8), words.coming + 1)
    upon = chance.choice((0, near, near, chance.choice(list(words.copies) or [0]) + 1))
    if chained and words.copies and chance.randrange(20):
        upon = max(words.copies) + 1
    size = chance.choice((1, 1, 1, 2, 3, 7, 19))
    if chance.randrange(25) == 0:
        size = chance.choice((0, 10 ** 6, 10 ** 6 + 1))
    if chance.randrange(40) == 0:
        time = 2 ** 31
    return add(time, upon, size)


def made_look(chance, words):
    number = chance.randint(max(0, words.coming - 20), words.coming)
    k = chance.choice((number, number, chance.choice(list(words.copies) or [0]), 2 ** 32 - 1))
    return chance.choice((back(k), back(k), why(k), why(k), why(k), LIST, STATE))


def made_line(chance, many, anew=60):
    """Calls of all kinds and what the words answer: begin first, up to one that's answered 0."""
    words = Words()
    calls, told = [], []
    forgetting = chance.choice((2, 10, 60))
    chained = chance.randrange(3) == 0
    while len(calls) < many:
        if words.rules is None or (anew and chance.randrange(anew) == 0):
            call = made_begin(chance)
        elif chance.randrange(3) == 0:
            call = made_look(chance, words)
        elif chance.randrange(forgetting) == 0:
            call = FORGET
        elif chance.randrange(4) == 0:
            on = 2 if chance.randrange(20) == 0 else chance.randrange(2)
            call = hold(chance.randint(max(0, words.coming - 20), words.coming), on)
        else:
            call = made_add(chance, words, chained)
        calls.append(call)
        told.append(words.answer(call))
    return calls, told


def behind_begin(calls, told):
    """How many calls a line has up to the first one that's answered 0."""
    return told.index(0) + 1 if 0 in told else len(calls)


class WordsTest(unittest.TestCase):

    def test_made_lines(self):
        met, whys, longest = set(), set(), 0
        for seed in range(300):
            calls, told = made_line(random.Random(seed), 200)
            self.assertIsNone(difference(ask(*calls), told), seed)
            met |= {(call[0], number) for call, number in zip(calls, told) if number in REFUSALS}
            whys |= {(number[0], number[1] > 0, *number[2:])
                     for call, number in zip(calls, told) if call[0] == 5 and number != -2}
            longest = max([longest] + [number[0] for call, number in zip(calls, told) if call[0] == 4 and number != -2])
        refusals = {(0, -22), (2, -22), (2, -2), (4, -2), (5, -2)} | {(1, number) for number in REFUSALS}
        self.assertEqual(met, refusals)
        # Not kept, held, newest or needed is the one way to go; the newest is never needed by another one.
        self.assertEqual(len(whys), 1 + 11)
        self.assertGreater(longest, 40)

    def test_long_lines_begun_once(self):
        for seed in range(40):
            calls, told = made_line(random.Random(1000 + seed), 500, 0)
            self.assertIsNone(difference(ask(*calls), told), seed)

    def test_looking_at_all_ahead_of_each_call(self):
        for seed in range(20):
            calls, told = made_line(random.Random(8000 + seed), 60)
            first = behind_begin(calls, told)
            line = calls[:first] + [part for call in calls[first:] for part in looks(30) + [call]]
            words = Words()
            self.assertIsNone(difference(ask(*line), [words.answer(call) for call in line]), seed)


class WhatHoldsTest(unittest.TestCase):

    def test_nothing_lacks_what_it_builds_upon(self):
        for seed in range(100):
            calls, told = made_line(random.Random(3000 + seed), 80)
            first = behind_begin(calls, told)
            line = calls[:first] + [part for call in calls[first:] for part in (call, LIST)]
            for listed in ask(*line)[first + 1::2]:
                rows = [] if listed == 0 else listed[1:]
                numbers = rows[::3]
                for upon in rows[2::3]:
                    self.assertTrue(upon == 0 or upon - 1 in numbers, (seed, listed))

    def test_forgotten_is_just_what_why_told_0_of(self):
        went = 0
        for seed in range(300):
            calls = made_line(random.Random(9000 + seed), 70, 0)[0]
            seeing = [LIST] + [why(k) for k in range(70)] + [FORGET, LIST, STATE]
            line = []
            for call in calls:
                line.extend(seeing if call == FORGET else [call])
            told = ask(*line)
            for k in [k for k in range(len(line)) if line[k] == FORGET]:
                before = [] if told[k - 71] == 0 else told[k - 71][1::3]
                after = [] if told[k + 1] == 0 else told[k + 1][1::3]
                whys = told[k - 70:k]
                self.assertEqual([j for j in range(70) if whys[j] != -2], before, seed)
                self.assertEqual([j for j in range(70) if whys[j] != -2 and whys[j][0] == 1], after, seed)
                self.assertEqual(told[k][0], len(before) - len(after), seed)
                self.assertEqual(told[k + 2][0], len(after), seed)
                went += told[k][0]
        self.assertGreater(went, 500)

    def test_what_is_refused_changes_nothing(self):
        for seed in range(200):
            calls, told = made_line(random.Random(2000 + seed), 150)
            answered = [k for k in range(len(calls)) if told[k] not in REFUSALS]
            if answered:
                again = ask(*[calls[k] for k in answered])
                self.assertIsNone(difference(again, [told[k] for k in answered]), seed)

    def test_all_looks_the_same_after_a_refusal(self):
        for seed in range(60):
            calls, told = made_line(random.Random(2500 + seed), 50)
            first = behind_begin(calls, told)
            seeing = looks(30)
            for k in [k for k in range(first, len(calls)) if told[k] in REFUSALS]:
                seen = ask(*calls[:k], *seeing, calls[k], *seeing)[k:]
                self.assertIsNone(difference(seen[:len(seeing)], seen[len(seeing) + 1:]), (seed, k))

    def test_looking_changes_nothing(self):
        for seed in range(60):
            calls, told = made_line(random.Random(3500 + seed), 60)
            first = behind_begin(calls, told)
            doing = calls[:first] + [call for call in calls[first:] if call[0] < 4]
            asked = [number for call, number in zip(calls, told) if call[0] < 4]
            self.assertIsNone(difference(ask(*doing), asked), seed)
            seeing = looks(20)
            line = doing[:first] + [part for call in doing[first:] for part in seeing + [call]]
            self.assertIsNone(difference(ask(*line)[first - 1::len(seeing) + 1], asked[first - 1:]), seed)


class StepByStepTest(unittest.TestCase):

    def made(self, chance):
        """A line that forgets now and then, in which nothing is refused."""
        words = Words()
        calls = [begin(10 ** 9, *made_rules(chance))]
        words.answer(calls[0])
        while words.coming < 40:
            kept = sorted(words.copies) or [0]
            call = made_add(chance, words)
            if words.coming and chance.randrange(5) == 0:
                call = hold(chance.choice(kept), chance.randrange(2))
            if chance.randrange(6) == 0:
                call = FORGET
            if chance.randrange(8) == 0:
                call = made_look(chance, words)
            if words.answer(call) not in REFUSALS:
                calls.append(call)
        return calls

    def test_the_same_is_left(self):
        for seed in range(150):
            steps = self.made(random.Random(4000 + seed))
            once = [call for call in steps if call != FORGET]
            left = []
            for calls in (steps + [FORGET], once + [FORGET]):
                self.assertEqual([k for k in ask(*calls) if k in REFUSALS], [], seed)
                left.append([there(calls, 40)] + ask(*calls, *looks(40))[len(calls):])
            self.assertEqual(left[0], left[1], seed)

    def test_forgotten_twice_is_forgotten_once(self):
        for seed in range(50):
            calls = self.made(random.Random(5000 + seed)) + [FORGET]
            self.assertEqual(there(calls, 40), there(calls + [FORGET], 40), seed)
            many = len(looks(40))
            told = ask(*calls, *looks(40), FORGET, *looks(40))[len(calls):]
            self.assertEqual(told[many], [0, 0], seed)
            self.assertIsNone(difference(told[:many], told[many + 1:]), seed)

    def test_the_newest_and_those_held_stay(self):
        for seed in range(50):
            calls = self.made(random.Random(6000 + seed))
            held = {call[1]: call[2] for call in calls if call[0] == 2}
            staying = there(calls + [FORGET], 40)
            self.assertIn(39, staying)
            whys = ask(*calls, FORGET, *[why(k) for k in range(40)])[-40:]
            self.assertEqual([whys[39][0], whys[39][3]], [1, 1], seed)
            for k in held:
                self.assertTrue(held[k] == 0 or k in staying, (seed, k))
                self.assertTrue(held[k] == 0 or [whys[k][0], whys[k][2]] == [1, 1], (seed, k))


class InterfaceTest(unittest.TestCase):

    def test_counts_stand_ahead_of_the_answers(self):
        calls = begin(0) + begin(9, (0, 1), (60, 2)) + add(5, 0, 4) + add(5) + add(6) + add(70) + FORGET + hold(9)
        calls = calls + hold(2, 2) + hold(2) + FORGET
        told = [1, -22, 1, 0, 1, 0, 1, -13, 1, 1, 1, 2, 2, 1, 4, 1, -2, 1, -22, 1, 0, 2, 0, 0]
        self.assertEqual(answers(calls), told)
        calls = calls + back(0) + why(0) + LIST + STATE + add(71, 3) + back(3) + why(2) + why(3) + LIST + STATE
        told = told + [1, -2, 1, -2, 7, 2, 1, 6, 0, 2, 70, 0, 3, 2, 2, 3, 1, 3, 3, 2, 2, 3, 5, 1, 0, 1, 0, 1]
        told = told + [5, 1, 3, 0, 1, 0, 10, 3, 1, 6, 0, 2, 70, 0, 3, 71, 3, 3, 3, 3, 4]
        self.assertEqual(answers(calls), told)
        self.assertEqual(answers(begin(1) + LIST + STATE + back(0) + why(0)), [1, 0, 1, 0, 3, 0, 0, 0, 1, -2, 1, -2])

    def test_the_list_is_as_it_was_and_told_twice_the_same(self):
        for seed in range(30):
            calls = [number for call in made_line(random.Random(7000 + seed), 100)[0] for number in call]
            before = list(calls)
            told = answers(calls)
            self.assertIsNone(difference(calls, before))
            again = answers(calls)
            self.assertIsNone(difference(calls, before))
            self.assertIsNone(difference(again, told))
            self.assertIsNone(difference(answers(list(before)), told))

    def test_what_was_told_is_not_kept(self):
        calls = begin(9, (0, 1)) + add(1) + add(2) + FORGET
        told = answers(calls)
        told.append(99)
        self.assertEqual(answers(calls), [1, 0, 1, 0, 1, 1, 2, 1, 1])

    def test_the_list_is_not_changed_for_a_while_either(self):
        class Watched(list):
            def refuse(self, *others):
                raise AssertionError("the list handed in was changed")
            append = extend = insert = pop = remove = clear = reverse = sort = refuse
            __setitem__ = __delitem__ = __iadd__ = __imul__ = refuse
        calls = begin(9, (0, 1)) + add(1) + add(2) + hold(0) + FORGET + back(1) + why(0) + LIST + STATE + begin(0)
        self.assertEqual(answers(Watched(calls)), answers(calls))

    def test_whole_numbers_in_a_list(self):
        told = answers(begin(9) + add(1) + hold(0) + hold(0, 0) + add(2) + FORGET + back(1) + why(1) + LIST + STATE)
        self.assertIs(type(told), list)
        self.assertEqual({type(number) for number in told}, {int})

    def test_5000_calls(self):
        calls = [begin(10 ** 9, *[(k * 7, 8) for k in range(8)])]
        for k in range(2499):
            calls.extend([add(3 * k, 0, 1000), FORGET])
        calls.append(hold(2498))
        self.assertEqual(len(calls), 4999 + 1)
        told = ask(*calls)
        self.assertIsNone(difference(told[1:-1:2], list(range(2499))))
        self.assertEqual(told[-1], 0)

    def test_5000_calls_with_long_answers(self):
        copies = begin(10 ** 9, *[(0, 64)] * 8)
        for k in range(64):
            copies = copies + add(2 ** 31 - 64 + k, k, 10 ** 6)
        heads = [1, 0] + [number for k in range(64) for number in (1, k)]
        rows = [number for k in range(64) for number in (k, 2 ** 31 - 64 + k, k)]
        many = 5000 - 65
        for call, told in ((LIST, [193, 64] + rows), (back(63), [65, 64] + list(range(64))),
                           (why(0), [5, 1, 255, 0, 0, 1]), (STATE, [3, 64, 64 * 10 ** 6, 64])):
            asked = heads + told * many
            self.assertLess(len(asked), 10 ** 6)
            self.assertIsNone(difference(answers(copies + call * many), asked), call)

    def test_the_longest_rows_of_rules(self):
        calls = [begin(5, *[(2 ** 32 - 1, 2 ** 32 - 1)] * 30)] * 400 + [begin(5)]
        self.assertIsNone(difference(ask(*calls), [-22] * 400 + [0]))


if __name__ == "__main__":
    unittest.main()
