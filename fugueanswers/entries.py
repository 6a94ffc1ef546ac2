"""Entries of voices: which overlap, and what they cost against one another."""

from fugueanswers.lines import STEPS_OF_AN_OCTAVE, line_length, raised
from fugueanswers.meetings import meeting_costs, placed, voices_cost

LAST_TIME = 8192
MOST_OCTAVES = 4
LAST_VOICE = 3


class Entry:
    """A line of a kind, at a time, so many octaves higher, that is one voice's."""

    def __init__(self, kind, time, octaves, voice, events):
        self.kind = kind
        self.time = time
        self.octaves = octaves
        self.voice = voice
        # The lines stay as they are while there are entries, so what is heard may be kept.
        self.part = placed(raised(events, octaves * STEPS_OF_AN_OCTAVE), time)
        self.end = time + line_length(events)

    def numbers_told(self):
        """The numbers that tell the entry."""
        return [self.kind, self.time, self.octaves, self.voice]


def is_place(time, octaves, voice):
    """Whether an entry may have this time, these octaves and this voice."""
    if not 0 <= time <= LAST_TIME:
        return False
    return -MOST_OCTAVES <= octaves <= MOST_OCTAVES and 0 <= voice <= LAST_VOICE


def overlap(first, second):
    """Whether both entries are one voice's, and neither begins where the other has ended or later."""
    if first.voice != second.voice:
        return False
    return first.time < second.end and second.time < first.end


def cost_against(entry, others, prices):
    """What the entry costs against those of the others that are other voices'."""
    return sum([voices_cost(entry.part, other.part, prices) for other in others if other.voice != entry.voice])


def cost_of_all(entries, prices):
    """What each two of the entries of different voices cost."""
    return sum([cost_against(entry, entries[:at], prices) for at, entry in enumerate(entries)])


def bad_meetings(first, second, prices):
    """Of each meeting of the entries at which something costs its time and what it costs."""
    return [meeting for meeting in meeting_costs(first.part, second.part, prices) if meeting[1] > 0]
