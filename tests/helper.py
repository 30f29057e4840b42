"""Calls written short, and the answers to them taken apart again."""

from forgetkeeper.keeper import answers

FORGET = [3]
LIST = [6]
STATE = [7]


def begin(room, *rules):
    numbers = [number for rule in rules for number in rule]
    return [0, room, len(numbers)] + numbers


def add(time, upon=0, size=1):
    return [1, time, upon, size]


def hold(k, on=1):
    return [2, k, on]


def back(k):
    return [4, k]


def why(k):
    return [5, k]


def parted(told):
    """Each call's numbers apart: its count is checked and left out."""
    parts = []
    place = 0
    while place < len(told):
        many = told[place]
        part = told[place + 1:place + 1 + many]
        if many < 1 or len(part) != many:
            raise AssertionError("the counts do not fit the answers")
        parts.append(part)
        place += 1 + many
    return parts


def ask(*calls):
    """The answers to calls: a number where one is answered, else a list of them."""
    line = [number for call in calls for number in call]
    parts = parted(answers(line))
    if len(parts) != len(calls):
        raise AssertionError("there are not as many answers as calls")
    return [part[0] if len(part) == 1 else part for part in parts]


def last(*calls):
    return ask(*calls)[-1]


def there(calls, many):
    """Which of the numbers below many are copies that are there behind calls."""
    probes = [hold(k) for k in range(many)]
    told = ask(*calls, *probes)[len(calls):]
    return [k for k in range(many) if told[k] == 0]


def looks(many):
    """Every call that only looks, at each of the numbers below many and at some that never were."""
    numbers = list(range(many)) + [many, many + 64, 2 ** 32 - 1]
    return [LIST, STATE] + [call for k in numbers for call in (back(k), why(k))]


def difference(told, asked):
    """None, or where two long rows first differ and how: unittest would take minutes to tell it."""
    for k in range(min(len(told), len(asked))):
        if told[k] != asked[k]:
            return k, told[k], asked[k]
    return None if len(told) == len(asked) else (len(told), len(asked))
