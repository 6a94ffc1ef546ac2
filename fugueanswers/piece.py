"""The object that the calls are made on."""

from fugueanswers.entries import Entry, bad_meetings, cost_against, cost_of_all, is_place, overlap
from fugueanswers.lines import (
    FIFTH,
    answer_of,
    changed_by_answer,
    head_size,
    is_step,
    line_length,
    raised,
    read_events,
    tell_events,
)
from fugueanswers.meetings import placed, times_above, voices_cost
from fugueanswers.prices import FIRST_PRICES, Prices, are_prices

FIRST_TONIC = 28
MOST_EVENTS = 16
LAST_SWAP = 22
MOST_ENTRIES = 8

# In the order in which they are preferred where they cost the same.
OCTAVES_TO_CHOOSE = (0, -1, 1, -2, 2)

SUBJECT_KIND = 0
ANSWER_KIND = 1
COUNTER_KIND = 2
RAISED_COUNTER_KIND = 3

OUT_OF_RANGE = -1
NO_LIST_OF_EVENTS = -2
NO_ENTRY = -3
OVERLAP = -4
WRONG_COUNT = -5
NO_LINE = -7


def is_kind(number):
    """Whether the number is a kind of lines."""
    return SUBJECT_KIND <= number <= RAISED_COUNTER_KIND


class Piece:
    """A tonic, a subject and a counter line (None: there is none), the entries, the prices.

    Each method that answers a call gives back the numbers that are answered; a refusal is one number below 0.
    """

    def __init__(self):
        self.tonic = FIRST_TONIC
        self.subject = None
        self.counter = None
        self.entries = []
        self.prices = Prices(FIRST_PRICES)

    def take_subject(self, tonic, numbers):
        """Another subject: how many events, its length, how many events its head has."""
        if not is_step(tonic):
            return [OUT_OF_RANGE]
        events = read_events(numbers)
        if events is None:
            return [NO_LIST_OF_EVENTS]
        if not 1 <= len(events) <= MOST_EVENTS:
            return [WRONG_COUNT]
        self.tonic = tonic
        self.subject = events
        self.counter = None
        self.entries = []
        return [len(events), line_length(events), head_size(events, tonic)]

    def take_counter(self, numbers):
        """Another counter line: how many events, its length, what it and the subject cost."""
        events = read_events(numbers)
        if events is None:
            return [NO_LIST_OF_EVENTS]
        if self.subject is None:
            return [NO_LINE]
        if not 1 <= len(events) <= MOST_EVENTS:
            return [WRONG_COUNT]
        self.counter = events
        self.entries = []
        return [len(events), line_length(events), self.cost_lowered(0)]

    def take_prices(self, numbers):
        """Other prices and another beat: 0."""
        if not are_prices(numbers):
            return [OUT_OF_RANGE]
        self.prices = Prices(numbers)
        return [0]

    def tell_answer(self):
        """How many events of the subject's answer are otherwise than a fifth higher, its events."""
        if self.subject is None:
            return [NO_LINE]
        changed = changed_by_answer(self.subject, self.tonic)
        return [changed] + tell_events(answer_of(self.subject, self.tonic))

    def tell_line(self, kind):
        """How many events the line of a kind has, and they."""
        if not is_kind(kind):
            return [OUT_OF_RANGE]
        events = self.line_of_kind(kind)
        if events is None:
            return [NO_LINE]
        return [len(events)] + tell_events(events)

    def tell_swap(self, n):
        """What the lines cost with places changed at n, and where the counter line is still above."""
        if not 1 <= n <= LAST_SWAP:
            return [OUT_OF_RANGE]
        if self.counter is None:
            return [NO_LINE]
        times = self.times_still_above(n - 1)
        return [self.cost_lowered(n - 1), len(times)] + times

    def tell_swaps(self):
        """What the lines cost as they are; for each n what they cost, at how many meetings the counter is above."""
        if self.counter is None:
            return [NO_LINE]
        told = [self.cost_lowered(0)]
        for n in range(1, LAST_SWAP + 1):
            told.append(self.cost_lowered(n - 1))
            told.append(len(self.times_still_above(n - 1)))
        return told

    def take_entry(self, kind, time, octaves, voice):
        """One entry more: how many there are, what it costs against those that were there."""
        refusal = self.entry_refusal(kind, time, octaves, voice)
        if refusal is not None:
            return [refusal]
        if len(self.entries) >= MOST_ENTRIES:
            return [WRONG_COUNT]
        entry = self.made_entry(kind, time, octaves, voice)
        cost = cost_against(entry, self.entries, self.prices)
        self.entries.append(entry)
        return [len(self.entries), cost]

    def tell_best(self, kind, time, voice):
        """What an entry would cost in the octave in which it costs least, and that octave."""
        refusal = self.entry_refusal(kind, time, 0, voice)
        if refusal is not None:
            return [refusal]
        choices = [self.made_entry(kind, time, octaves, voice) for octaves in OCTAVES_TO_CHOOSE]
        costs = [cost_against(entry, self.entries, self.prices) for entry in choices]
        least = min(costs)
        return [least, OCTAVES_TO_CHOOSE[costs.index(least)]]

    def drop_entry(self):
        """The last entry goes: how many there are."""
        if len(self.entries) == 0:
            return [NO_ENTRY]
        self.entries.pop()
        return [len(self.entries)]

    def tell_cost(self):
        """What all entries cost, and how many there are."""
        return [cost_of_all(self.entries, self.prices), len(self.entries)]

    def tell_bad(self, i, j):
        """At how many meetings of two entries something costs; of each its time, what it costs."""
        if i == j or not self.is_entry(i) or not self.is_entry(j):
            return [OUT_OF_RANGE]
        meetings = bad_meetings(self.entries[i], self.entries[j], self.prices)
        told = [len(meetings)]
        for time, cost in meetings:
            told.extend([time, cost])
        return told

    def tell_entries(self):
        """How many entries there are; of each its kind, time, octaves, voice."""
        told = [len(self.entries)]
        for entry in self.entries:
            told.extend(entry.numbers_told())
        return told

    def is_entry(self, number):
        """Whether there is an entry of this number, from 0 on."""
        return 0 <= number < len(self.entries)

    def made_entry(self, kind, time, octaves, voice):
        """Such an entry, not yet among the others; there must be a line of its kind."""
        return Entry(kind, time, octaves, voice, self.line_of_kind(kind))

    def entry_refusal(self, kind, time, octaves, voice):
        """Why there can't be such an entry, however many there are; None if there can."""
        if not is_kind(kind) or not is_place(time, octaves, voice):
            return OUT_OF_RANGE
        if self.line_of_kind(kind) is None:
            return NO_LINE
        entry = self.made_entry(kind, time, octaves, voice)
        if any([overlap(entry, other) for other in self.entries]):
            return OVERLAP
        return None

    def line_of_kind(self, kind):
        """The events of the line of a kind, 0 to 3, None where there is no such line."""
        if kind == SUBJECT_KIND or self.subject is None:
            return self.subject
        if kind == ANSWER_KIND:
            return answer_of(self.subject, self.tonic)
        if kind == COUNTER_KIND or self.counter is None:
            return self.counter
        return raised(self.counter, FIFTH)

    def lowered_counter(self, steps):
        """The counter line so many steps lower, from time 0."""
        return placed(raised(self.counter, -steps), 0)

    def cost_lowered(self, steps):
        """What the counter line so many steps lower and the subject cost."""
        return voices_cost(self.lowered_counter(steps), placed(self.subject, 0), self.prices)

    def times_still_above(self, steps):
        """At which times the counter line so many steps lower meets the subject above it."""
        return times_above(self.lowered_counter(steps), placed(self.subject, 0))
