"""How the tests write calls and read their answers."""

from fugueanswers.fugue import answers

FAR = 9007199254740992


def note(step, length):
    return [1, step, length]


def rest(length):
    return [0, length]


def joined(parts):
    numbers = []
    for part in parts:
        numbers.extend(part)
    return numbers


def notes(steps, length=16):
    """Notes of these steps, all of one length."""
    return joined([note(step, length) for step in steps])


def call(number, numbers):
    return [number, len(numbers)] + list(numbers) + [0]


def subject(tonic, events):
    return call(1, [tonic] + events)


def counter(events):
    return call(2, events)


def prices(numbers):
    return call(3, numbers)


def answer():
    return call(4, [])


def line(kind):
    return call(5, [kind])


def swap(n):
    return call(6, [n])


def swaps():
    return call(7, [])


def enter(kind, time, octaves, voice):
    return call(8, [kind, time, octaves, voice])


def best(kind, time, voice):
    return call(9, [kind, time, voice])


def drop():
    return call(10, [])


def cost():
    return call(11, [])


def bad(i, j):
    return call(12, [i, j])


def entries():
    return call(13, [])


def split(told):
    """The answers of the calls, one list each."""
    found = []
    at = 0
    while at < len(told):
        end = at + 1 + told[at]
        if end > len(told):
            raise ValueError("an answer is cut short")
        found.append(told[at + 1:end])
        at = end
    return found


def asked(*calls):
    """The answers to these calls on one new object, one list each."""
    return split(answers(joined(calls)))


def last(*calls):
    """The answer to the last of these calls."""
    return asked(*calls)[-1]
