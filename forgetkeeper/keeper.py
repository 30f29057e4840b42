"""The keeper of copies, and answers(calls), which asks a new one call by call."""

from forgetkeeper.staying import copies_wanted, numbers_needed, numbers_staying, rules_keeping

BAD_VALUE = -22
NOT_LATER = -13
NO_SUCH_COPY = -2
TOO_MANY = -12
NO_ROOM = -28

MOST_ROOM = 1000000000
MOST_RULES = 8
MOST_PERIODS = 64
MOST_COPIES = 64
MOST_SIZE = 1000000
FIRST_TIME_REFUSED = 2147483648

BEGIN = 0
ADD = 1
HOLD = 2
FORGET = 3
BACK = 4
WHY = 5
LIST = 6
STATE = 7

# By a call's number, how many numbers it has with this one; of begin those ahead of its rules.
WIDTHS = (3, 4, 3, 1, 2, 2, 1, 1)


class Copy:

    def __init__(self, number, time, upon, size):
        self.number = number
        self.time = time
        # As the call has it: 0 for none, else a number and 1.
        self.upon = upon
        self.size = size
        self.held = False


class Keeper:

    def __init__(self):
        self.room = 0
        self.rules = []
        self.copies = []
        self.next_number = 0

    def begin(self, room, rules):
        if room < 1 or room > MOST_ROOM or not rules_fit(rules):
            return BAD_VALUE
        self.room = room
        self.rules = rules
        self.copies = []
        self.next_number = 0
        return 0

    def add(self, time, upon, size):
        refusal = self.refusal_to_add(time, upon, size)
        if refusal != 0:
            return refusal
        number = self.next_number
        self.copies.append(Copy(number, time, upon, size))
        self.next_number = number + 1
        return number

    def refusal_to_add(self, time, upon, size):
        if time >= FIRST_TIME_REFUSED or size < 1 or size > MOST_SIZE:
            return BAD_VALUE
        # Times rise from copy to copy and the newest is never forgotten, so the last one's time is the latest.
        if len(self.copies) > 0 and time <= self.copies[-1].time:
            return NOT_LATER
        if upon > 0 and copy_numbered(self.copies, upon - 1) is None:
            return NO_SUCH_COPY
        if len(self.copies) >= MOST_COPIES:
            return TOO_MANY
        if size_together(self.copies) + size > self.room:
            return NO_ROOM
        return 0

    def hold(self, number, on):
        if on > 1:
            return BAD_VALUE
        one = copy_numbered(self.copies, number)
        if one is None:
            return NO_SUCH_COPY
        one.held = on == 1
        return 0

    def forget(self):
        staying = numbers_staying(self.copies, self.rules)
        gone = [one for one in self.copies if one.number not in staying]
        self.copies = [one for one in self.copies if one.number in staying]
        return [len(gone), size_together(gone)]

    def back(self, number):
        one = copy_numbered(self.copies, number)
        if one is None:
            return [NO_SUCH_COPY]
        needed = numbers_needed(self.copies, [one])
        # Each builds upon an earlier one, so in the order in which they were made they are the chain.
        chain = [other.number for other in self.copies if other.number in needed]
        return [len(chain)] + chain

    def why(self, number):
        one = copy_numbered(self.copies, number)
        if one is None:
            return [NO_SUCH_COPY]
        wanted = copies_wanted(self.copies, self.rules)
        others = [other for other in wanted if other.number != number]
        return [
            one_if(number in numbers_needed(self.copies, wanted)),
            rules_keeping(one, self.copies, self.rules),
            one_if(one.held),
            one_if(number == self.copies[-1].number),
            one_if(number in numbers_needed(self.copies, others)),
        ]

    def list_copies(self):
        told = [len(self.copies)]
        for one in self.copies:
            told.extend([one.number, one.time, one.upon])
        return told

    def state(self):
        return [len(self.copies), size_together(self.copies), self.next_number]


def rules_fit(rules):
    if len(rules) > MOST_RULES:
        return False
    return all([1 <= rule[1] <= MOST_PERIODS for rule in rules])


def copy_numbered(copies, number):
    for one in copies:
        if one.number == number:
            return one
    return None


def size_together(copies):
    return sum([one.size for one in copies])


def one_if(holds):
    return 1 if holds else 0


def pairs_of(numbers):
    return [(numbers[k], numbers[k + 1]) for k in range(0, len(numbers), 2)]


def width_of_call(calls, place):
    width = WIDTHS[calls[place]]
    if calls[place] == BEGIN:
        width = width + calls[place + 2]
    return width


def answer(keeper, call):
    if call[0] == BEGIN:
        return [keeper.begin(call[1], pairs_of(call[3:]))]
    if call[0] == ADD:
        return [keeper.add(call[1], call[2], call[3])]
    if call[0] == HOLD:
        return [keeper.hold(call[1], call[2])]
    if call[0] == FORGET:
        return keeper.forget()
    if call[0] == BACK:
        return keeper.back(call[1])
    if call[0] == WHY:
        return keeper.why(call[1])
    if call[0] == LIST:
        return keeper.list_copies()
    return keeper.state()


def answers(calls):
    keeper = Keeper()
    told = []
    place = 0
    while place < len(calls):
        width = width_of_call(calls, place)
        numbers = answer(keeper, calls[place:place + width])
        told.append(len(numbers))
        told.extend(numbers)
        place = place + width
    return told
