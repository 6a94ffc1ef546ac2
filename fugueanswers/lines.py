"""Lines of events: how they are read, told and moved, and their answer.

An event is a tuple of its step and its length; a rest's step is None.
"""

STEPS_OF_AN_OCTAVE = 7
FIFTH = 4
FIFTH_OF_A_DOMINANT = 3

TONIC_DEGREE = 0
DOMINANT_DEGREE = 4

HIGHEST_STEP = 69
LONGEST_LENGTH = 512

REST = 0
NOTE = 1
NUMBERS_OF_A_REST = 2
NUMBERS_OF_A_NOTE = 3


def is_step(number):
    """Whether the number may be a step that is handed in."""
    return 0 <= number <= HIGHEST_STEP


def is_length(number):
    """Whether the number may be an event's length."""
    return 1 <= number <= LONGEST_LENGTH


def read_event(numbers, at):
    """The event that begins at that place among the numbers, None where none does."""
    left = len(numbers) - at
    if numbers[at] == REST and left >= NUMBERS_OF_A_REST and is_length(numbers[at + 1]):
        return (None, numbers[at + 1])
    if numbers[at] == NOTE and left >= NUMBERS_OF_A_NOTE:
        if is_step(numbers[at + 1]) and is_length(numbers[at + 2]):
            return (numbers[at + 1], numbers[at + 2])
    return None


def read_events(numbers):
    """The events that the numbers tell, None where they are no list of events."""
    events = []
    at = 0
    while at < len(numbers):
        event = read_event(numbers, at)
        if event is None:
            return None
        events.append(event)
        at += NUMBERS_OF_A_REST if event[0] is None else NUMBERS_OF_A_NOTE
    return events


def tell_events(events):
    """The numbers that tell the events."""
    numbers = []
    for step, length in events:
        if step is None:
            numbers.extend([REST, length])
        else:
            numbers.extend([NOTE, step, length])
    return numbers


def line_length(events):
    """How long the events are together."""
    return sum([length for step, length in events])


def degree(step, tonic):
    """A note's degree, 0 to 6, also for a note below the tonic."""
    return (step - tonic) % STEPS_OF_AN_OCTAVE


def head_size(events, tonic):
    """How many events the line's head has, its rests among them."""
    size = 0
    for step, length in events:
        if step is not None and degree(step, tonic) not in (TONIC_DEGREE, DOMINANT_DEGREE):
            return size
        size += 1
    return size


def raised_event(event, steps):
    """The event, so many steps higher if it is a note."""
    if event[0] is None:
        return event
    return (event[0] + steps, event[1])


def raised(events, steps):
    """The events with all notes so many steps higher."""
    return [raised_event(event, steps) for event in events]


def is_dominant(event, tonic):
    """Whether the event is a note, and a dominant."""
    return event[0] is not None and degree(event[0], tonic) == DOMINANT_DEGREE


def answer_of(events, tonic):
    """The line's answer: in the head tonic and dominant change places."""
    size = head_size(events, tonic)
    answered = []
    for event in events[:size]:
        steps = FIFTH_OF_A_DOMINANT if is_dominant(event, tonic) else FIFTH
        answered.append(raised_event(event, steps))
    return answered + raised(events[size:], FIFTH)


def changed_by_answer(events, tonic):
    """How many events of the answer are otherwise than a fifth higher."""
    head = events[:head_size(events, tonic)]
    return len([event for event in head if is_dominant(event, tonic)])
