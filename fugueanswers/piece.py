"""The object that the calls are made on."""

from fugueanswers.lines import (
    FIFTH,
    answer_of,
    changed_by_answer,
    head_size,
    is_step,
    line_length,
    raised,
    read_events,
    tell_events,
)
from fugueanswers.meetings import placed, times_above, voices_cost
from fugueanswers.prices import FIRST_PRICES, Prices, are_prices

FIRST_TONIC = 28
MOST_EVENTS = 16
LAST_SWAP = 22

SUBJECT_KIND = 0
ANSWER_KIND = 1
COUNTER_KIND = 2
RAISED_COUNTER_KIND = 3

OUT_OF_RANGE = -1
NO_LIST_OF_EVENTS = -2
WRONG_COUNT = -5
NO_LINE = -7


class Piece:
    """A tonic, a subject and a counter line (None: there is none), the entries, the prices.

    Each method that answers a call gives back the numbers that are answered; a refusal is one number below 0.
    """

    def __init__(self):
        self.tonic = FIRST_TONIC
        self.subject = None
        self.counter = None
        self.entries = []
        self.prices = Prices(FIRST_PRICES)

    def take_subject(self, tonic, numbers):
        """Another subject: how many events, its length, how many events its head has."""
        if not is_step(tonic):
            return [OUT_OF_RANGE]
        events = read_events(numbers)
        if events is None:
            return [NO_LIST_OF_EVENTS]
        if not 1 <= len(events) <= MOST_EVENTS:
            return [WRONG_COUNT]
        self.tonic = tonic
        self.subject = events
        self.counter = None
        self.entries = []
        return [len(events), line_length(events), head_size(events, tonic)]

    def take_counter(self, numbers):
        """Another counter line: how many events, its length, what it and the subject cost."""
        events = read_events(numbers)
        if events is None:
            return [NO_LIST_OF_EVENTS]
        if self.subject is None:
            return [NO_LINE]
        if not 1 <= len(events) <= MOST_EVENTS:
            return [WRONG_COUNT]
        self.counter = events
        self.entries = []
        return [len(events), line_length(events), self.cost_lowered(0)]

    def take_prices(self, numbers):
        """Other prices and another beat: 0."""
        if not are_prices(numbers):
            return [OUT_OF_RANGE]
        self.prices = Prices(numbers)
        return [0]

    def tell_answer(self):
        """How many events of the subject's answer are otherwise than a fifth higher, its events."""
        if self.subject is None:
            return [NO_LINE]
        changed = changed_by_answer(self.subject, self.tonic)
        return [changed] + tell_events(answer_of(self.subject, self.tonic))

    def tell_line(self, kind):
        """How many events the line of a kind has, and they."""
        if not SUBJECT_KIND <= kind <= RAISED_COUNTER_KIND:
            return [OUT_OF_RANGE]
        events = self.line_of_kind(kind)
        if events is None:
            return [NO_LINE]
        return [len(events)] + tell_events(events)

    def tell_swap(self, n):
        """What the lines cost with places changed at n, and where the counter line is still above."""
        if not 1 <= n <= LAST_SWAP:
            return [OUT_OF_RANGE]
        if self.counter is None:
            return [NO_LINE]
        times = self.times_still_above(n - 1)
        return [self.cost_lowered(n - 1), len(times)] + times

    def tell_swaps(self):
        """What the lines cost as they are; for each n what they cost, at how many meetings the counter is above."""
        if self.counter is None:
            return [NO_LINE]
        told = [self.cost_lowered(0)]
        for n in range(1, LAST_SWAP + 1):
            told.append(self.cost_lowered(n - 1))
            told.append(len(self.times_still_above(n - 1)))
        return told

    def line_of_kind(self, kind):
        """The events of the line of a kind, 0 to 3, None where there is no such line."""
        if kind == SUBJECT_KIND or self.subject is None:
            return self.subject
        if kind == ANSWER_KIND:
            return answer_of(self.subject, self.tonic)
        if kind == COUNTER_KIND or self.counter is None:
            return self.counter
        return raised(self.counter, FIFTH)

    def lowered_counter(self, steps):
        """The counter line so many steps lower, from time 0."""
        return placed(raised(self.counter, -steps), 0)

    def cost_lowered(self, steps):
        """What the counter line so many steps lower and the subject cost."""
        return voices_cost(self.lowered_counter(steps), placed(self.subject, 0), self.prices)

    def times_still_above(self, steps):
        """At which times the counter line so many steps lower meets the subject above it."""
        return times_above(self.lowered_counter(steps), placed(self.subject, 0))
