"""Which copies stay and why: those that rules keep, those wanted, and what these need.

Copies come as a list in the order in which they were made, so their times rise.
"""


def period_of(time, length):
    # No two copies have the same time, so with length 0 the time itself tells the periods apart.
    if length == 0:
        return time
    return time // length


def times_kept(rule, times):
    # Walked from the latest on, the first time met in a period is the newest of that period.
    length = rule[0]
    many = rule[1]
    kept = []
    for time in reversed(times):
        if len(kept) == many:
            break
        if len(kept) == 0 or period_of(kept[-1], length) != period_of(time, length):
            kept.append(time)
    return kept


def times_kept_by_some(rules, times):
    kept = {}
    for rule in rules:
        for time in times_kept(rule, times):
            kept[time] = True
    return kept


def rules_keeping(one, copies, rules):
    times = [other.time for other in copies]
    bits = 0
    for place, rule in enumerate(rules):
        if one.time in times_kept(rule, times):
            bits = bits | (1 << place)
    return bits


def copies_wanted(copies, rules):
    times = [one.time for one in copies]
    kept = times_kept_by_some(rules, times)
    # The newest is wanted even where no rule keeps it.
    if len(times) > 0:
        kept[times[-1]] = True
    return [one for one in copies if one.held or one.time in kept]


def numbers_needed(copies, some):
    needed = {}
    for one in some:
        needed[one.number] = True
    # A copy builds upon an earlier one alone: from the newest on, all that might need one were met before it.
    for one in reversed(copies):
        if one.number in needed and one.upon > 0:
            needed[one.upon - 1] = True
    return needed


def numbers_staying(copies, rules):
    return numbers_needed(copies, copies_wanted(copies, rules))
