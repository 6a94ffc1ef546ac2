"""Where two voices meet, and what that costs."""

from fugueanswers.lines import STEPS_OF_AN_OCTAVE

# Only octaves and fifths that follow one another are parallels.
PARALLEL_GAPS = (0, 4)


class Moment:
    """A time at which an event of one of two voices begins, with the steps that are on then.

    A step is None where its voice has no note on.
    """

    def __init__(self, time, first, second):
        self.time = time
        self.first = first
        self.second = second

    def is_meeting(self):
        """Whether a note of both voices is on."""
        return self.first is not None and self.second is not None

    def gap(self):
        """What is left by 7 of how many steps the notes are apart, at a meeting."""
        return abs(self.first - self.second) % STEPS_OF_AN_OCTAVE


def placed(events, start):
    """The voice that has these events from a time on: of each its begin, its end, its step."""
    voice = []
    begin = start
    for step, length in events:
        voice.append((begin, begin + length, step))
        begin += length
    return voice


def step_at(voice, time):
    """The step of the voice's note that is on at the time, None if there is none."""
    for begin, end, step in voice:
        if begin <= time < end:
            return step
    return None


def moments_of(first, second):
    """Every time at which an event of one of the voices begins, in order."""
    # A rest's begin counts too: it may stand between two meetings and keep them from being parallels.
    begins = [event[0] for event in first + second]
    return [Moment(time, step_at(first, time), step_at(second, time)) for time in sorted(set(begins))]


def meetings_of(first, second):
    """The moments at which the voices meet."""
    return [moment for moment in moments_of(first, second) if moment.is_meeting()]


def are_parallels(ahead, meeting):
    """Whether the meeting goes in parallel from the moment ahead of it (None: there is none)."""
    if ahead is None or not ahead.is_meeting():
        return False
    if meeting.gap() not in PARALLEL_GAPS or meeting.gap() != ahead.gap():
        return False
    both_up = meeting.first > ahead.first and meeting.second > ahead.second
    both_down = meeting.first < ahead.first and meeting.second < ahead.second
    return both_up or both_down


def meeting_costs(first, second, prices):
    """Of each meeting of the voices its time and what it costs."""
    costs = []
    ahead = None
    for moment in moments_of(first, second):
        if moment.is_meeting():
            cost = prices.gap_price(moment.time, moment.gap())
            if are_parallels(ahead, moment):
                cost += prices.parallels
            costs.append((moment.time, cost))
        ahead = moment
    return costs


def voices_cost(first, second, prices):
    """What the two voices cost."""
    return sum([cost for time, cost in meeting_costs(first, second, prices)])


def times_above(first, second):
    """The times of the meetings at which the first voice's note is above the second's."""
    return [meeting.time for meeting in meetings_of(first, second) if meeting.first > meeting.second]
