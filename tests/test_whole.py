"""Whole lists of calls in mixed order, held against a second telling of the document.

The second telling goes time by time where the program goes event by event, and keeps only what was handed in.
"""

import unittest

from calling import FAR, asked, call, joined, notes, rest, split
from fugueanswers.fugue import answers

AT_FIRST = [0, 10, 0, 6, 0, 0, 10, 0, 3, 0, 2, 0, 0, 3, 8, 16]


class Refused(Exception):
    pass


def refuse_if(wrong, number):
    if wrong:
        raise Refused(number)


def read(numbers):
    """The events, as lists of numbers."""
    left, events = list(numbers), []
    while left:
        size = {0: 2, 1: 3}.get(left[0])
        refuse_if(size is None or len(left) < size, -2)
        event, left = left[:size], left[size:]
        refuse_if(event[-1] not in range(1, 513) or size == 3 and event[1] not in range(70), -2)
        events.append(event)
    return events


def higher(events, steps):
    return [[1, event[1] + steps, event[2]] if event[0] else event for event in events]


def sounding(events, time):
    """At which times an event begins, and which step is on at each time."""
    begins, steps = [], {}
    for event in events:
        begins.append(time)
        for tick in range(time, time + event[-1]):
            if event[0]:
                steps[tick] = event[1]
        time += event[-1]
    return begins, steps


class Telling:
    def __init__(self):
        self.tonic, self.theme, self.other, self.there, self.numbers = 28, [], [], [], AT_FIRST

    def meetings(self, first, second):
        """Of each meeting its time, what it costs, and whether the first is above."""
        (begins, one), (more, two) = first, second
        times = sorted(set(begins + more))
        found = []
        for at, time in enumerate(times):
            if time in one and time in two:
                gap = abs(one[time] - two[time]) % 7
                cost = self.numbers[gap if time % self.numbers[15] == 0 else 7 + gap]
                ahead = times[at - 1] if at else None
                if ahead in one and ahead in two and abs(one[ahead] - two[ahead]) % 7 == gap and gap in (0, 4):
                    if (one[time] - one[ahead]) * (two[time] - two[ahead]) > 0:
                        cost += self.numbers[14]
                found.append((time, cost, one[time] > two[time]))
        return found

    def pair(self, first, second):
        return sum([cost for time, cost, above in self.meetings(first, second)])

    def head(self):
        size = 0
        while size < len(self.theme) and (not self.theme[size][0] or (self.theme[size][1] - self.tonic) % 7 in (0, 4)):
            size += 1
        return size

    def kind(self, kind):
        refuse_if(not self.theme or kind >= 2 and not self.other, -7)
        if kind == 1:
            head, rest_of_it = self.theme[:self.head()], self.theme[self.head():]
            moved = [higher([event], 3 if event[0] and (event[1] - self.tonic) % 7 == 4 else 4)[0] for event in head]
            return moved + higher(rest_of_it, 4)
        return (self.theme, None, self.other, higher(self.other, 4))[kind]

    def sound(self, entry):
        kind, time, octaves, voice = entry
        return sounding(higher(self.kind(kind), 7 * octaves), time)

    def against(self, entry):
        return sum([self.pair(self.sound(entry), self.sound(other)) for other in self.there if other[3] != entry[3]])

    def may_enter(self, entry):
        kind, time, octaves, voice = entry
        refuse_if(kind not in range(4) or time not in range(8193) or abs(octaves) > 4 or voice not in range(4), -1)
        length = sum([event[-1] for event in self.kind(kind)])
        for other in self.there:
            theirs = sum([event[-1] for event in self.kind(other[0])])
            refuse_if(other[3] == voice and not (time >= other[1] + theirs or other[1] >= time + length), -4)

    def changed_places(self, n):
        found = self.meetings(sounding(higher(self.other, 1 - n), 0), sounding(self.theme, 0))
        return sum([cost for time, cost, above in found]), [time for time, cost, above in found if above]

    def call_1(self, *numbers):
        refuse_if(numbers[0] not in range(70), -1)
        events = read(numbers[1:])
        refuse_if(len(events) not in range(1, 17), -5)
        self.tonic, self.theme, self.other, self.there = numbers[0], events, [], []
        return [len(events), sum([event[-1] for event in events]), self.head()]

    def call_2(self, *numbers):
        events = read(numbers)
        refuse_if(not self.theme, -7)
        refuse_if(len(events) not in range(1, 17), -5)
        self.other, self.there = events, []
        return [len(events), sum([event[-1] for event in events]), self.changed_places(1)[0]]

    def call_3(self, *numbers):
        refuse_if([number for number in numbers[:15] if number not in range(101)], -1)
        refuse_if(numbers[15] not in range(1, 513), -1)
        self.numbers = numbers
        return [0]

    def call_4(self):
        otherwise = [1 for one, two in zip(self.kind(1), higher(self.kind(0), 4)) if one != two]
        return [len(otherwise)] + joined(self.kind(1))

    def call_5(self, kind):
        refuse_if(kind not in range(4), -1)
        return [len(self.kind(kind))] + joined(self.kind(kind))

    def call_6(self, n):
        refuse_if(n not in range(1, 23), -1)
        refuse_if(not self.other, -7)
        total, times = self.changed_places(n)
        return [total, len(times)] + times

    def call_7(self):
        refuse_if(not self.other, -7)
        both = [self.changed_places(n) for n in range(1, 23)]
        return [both[0][0]] + joined([[total, len(times)] for total, times in both])

    def call_8(self, *entry):
        self.may_enter(entry)
        refuse_if(len(self.there) == 8, -5)
        told = [len(self.there) + 1, self.against(entry)]
        self.there.append(entry)
        return told

    def call_9(self, kind, time, voice):
        self.may_enter((kind, time, 0, voice))
        least = None
        for octaves in (0, -1, 1, -2, 2):
            total = self.against((kind, time, octaves, voice))
            if least is None or total < least[0]:
                least = [total, octaves]
        return least

    def call_10(self):
        refuse_if(not self.there, -3)
        self.there = self.there[:-1]
        return [len(self.there)]

    def call_11(self):
        twice = sum([self.against(entry) for entry in self.there])
        return [twice // 2, len(self.there)]

    def call_12(self, i, j):
        refuse_if(i not in range(len(self.there)) or j not in range(len(self.there)) or i == j, -1)
        found = self.meetings(self.sound(self.there[i]), self.sound(self.there[j]))
        costly = [[time, cost] for time, cost, above in found if cost]
        return [len(costly)] + joined(costly)

    def call_13(self):
        return [len(self.there)] + joined(self.there)


def told_again(calls):
    """What the second telling answers to these calls, each a number and a list of numbers."""
    telling, told = Telling(), []
    for number, numbers in calls:
        try:
            told.append(getattr(telling, "call_" + str(number))(*numbers))
        except Refused as refusal:
            told.append([refusal.args[0]])
    return told


class Chooser:
    """Chooses numbers that look mixed, the same ones each time."""

    def __init__(self, seed):
        self.state = seed

    def below(self, count):
        self.state = (self.state * 6364136223846793005 + 1442695040888963407) % 18446744073709551616
        return (self.state >> 33) % count

    def of(self, choices):
        return choices[self.below(len(choices))]

    def rarely(self, wrong, right):
        """One of the wrong ones now and then, else the right one."""
        return self.of(wrong) if self.below(12) == 0 else right

    def event(self):
        length = self.of((1, 2, 4, 8, 8, 16, 16, 32))
        return rest(length) if self.below(6) == 0 else [1, 26 + self.below(10), length]

    def events(self):
        wrong = ([], [0], [1, 28], [2, 3], [0, 513], [1, 70, 8], notes([28] * 17))
        return self.rarely(wrong, joined([self.event() for count in range(1 + self.below(9))]))

    def kind(self):
        return self.rarely((-1, 4, FAR), self.below(4))

    def time(self):
        return self.rarely((-1, 8192, 8193, -FAR), self.below(20) * self.of((1, 4, 8)))

    def voice(self):
        return self.rarely((-1, 4, FAR), self.below(4))

    def numbers(self, number):
        if number == 1:
            return [self.rarely((-1, 70), 28)] + self.events()
        if number == 2:
            return self.events()
        if number == 3:
            return [self.below(20) for count in range(15)] + [self.rarely((0, 513), self.of((1, 3, 8, 512)))]
        if number == 8:
            return [self.kind(), self.time(), self.rarely((-5, 5), self.below(9) - 4), self.voice()]
        if number == 9:
            return [self.kind(), self.time(), self.voice()]
        if number == 12:
            return [self.below(6) - 1, self.below(6)]
        return {5: [self.kind()], 6: [self.below(24)]}.get(number, [])

    def calls(self):
        """Sixty calls, all thirteen among them: the lines are handed in now and then, entries come often."""
        order = [1, 2, 13, 12, 11, 10, 9, 8, 7, 6, 5, 4, 3]
        often = (1, 2, 2, 3, 3, 4, 5, 6, 7) + (8,) * 18 + (9,) * 6 + (10, 10, 10, 11, 11, 11) + (12,) * 6 + (13, 13)
        at = self.below(14)
        mixed = [self.of(often) for count in range(47)]
        return [(number, self.numbers(number)) for number in mixed[:at] + order + mixed[at:]]


LISTS = [Chooser(seed).calls() for seed in range(150)]


def as_numbers(calls):
    return joined([call(number, numbers) for number, numbers in calls])


class WholeTest(unittest.TestCase):
    def test_as_the_second_telling_says(self):
        for seed, calls in enumerate(LISTS):
            told = split(answers(as_numbers(calls)))
            for at, (one, two) in enumerate(zip(told, told_again(calls))):
                self.assertEqual(one, two, (seed, at, calls[:at + 1]))
            self.assertEqual(len(told), 60)

    def test_the_lists_are_mixed(self):
        for calls in LISTS:
            self.assertEqual({number for number, numbers in calls}, set(range(1, 14)))
        seen = {}
        for calls in LISTS:
            for (number, numbers), told in zip(calls, told_again(calls)):
                seen.setdefault(number, set()).add(min(told[0], 0))
        self.assertEqual(seen, {1: {0, -1, -2, -5}, 2: {0, -2, -5, -7}, 3: {0, -1}, 4: {0, -7}, 5: {0, -1, -7},
                                6: {0, -1, -7}, 7: {0, -7}, 8: {0, -1, -4, -5, -7}, 9: {0, -1, -4, -7}, 10: {0, -3},
                                11: {0}, 12: {0, -1}, 13: {0}})

    def test_what_is_handed_in_stays_as_it_was(self):
        for calls in LISTS[:20]:
            handed_in = as_numbers(calls)
            answers(handed_in)
            self.assertEqual(handed_in, as_numbers(calls))

    def test_the_same_list_is_answered_alike_whatever_was_asked_before(self):
        first = [answers(as_numbers(calls)) for calls in LISTS[:20]]
        again = [answers(as_numbers(calls)) for calls in reversed(LISTS[:20])]
        self.assertEqual(first, again[::-1])

    def test_one_list_by_hand(self):
        told = asked(*[call(number, numbers) for number, numbers in (
            (13, []), (9, [0, 0, 0]), (1, [28] + notes([28, 32, 33])), (8, [2, 0, 0, 0]), (2, notes([33, 30, 31])),
            (4, []), (5, [3]), (6, [8]), (8, [0, 0, 0, 0]), (9, [2, 16, 1]), (8, [2, 16, 0, 1]), (12, [0, 1]),
            (11, []), (7, []), (3, [1] * 16), (11, []), (10, []), (10, []), (10, []), (13, []))])
        # 28 32 33 and 33 30 31 are apart by 5, 2, 2; the counter line an octave lower is below by 2, 9, 9.
        # From 16 on 33 and 30 stand against 32 and 33: 1 and 3 apart (10 and 6); an octave lower 6 and 10 (10 and 6),
        # an octave higher 8 and 4 (10 and 0).
        self.assertEqual(told[:13], [
            [0], [-7], [3, 48, 2], [-7], [3, 48, 0], [1] + notes([32, 35, 37]), [3] + notes([37, 34, 35]), [0, 0],
            [1, 0], [10, 1], [2, 16], [2, 16, 10, 32, 6], [16, 2]])
        self.assertEqual(told[13][:3], [0, 0, 1])
        self.assertEqual(told[14:], [[0], [2, 2], [1], [0], [-3], [0]])


if __name__ == "__main__":
    unittest.main()
