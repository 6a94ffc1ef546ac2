"""A list of calls on one new object, and its answers."""

from fugueanswers.piece import Piece

SUBJECT_CALL = 1
COUNTER_CALL = 2
PRICES_CALL = 3
ANSWER_CALL = 4
LINE_CALL = 5
SWAP_CALL = 6
SWAPS_CALL = 7
ENTER_CALL = 8
BEST_CALL = 9
DROP_CALL = 10
COST_CALL = 11
BAD_CALL = 12
ENTRIES_CALL = 13


def read_calls(calls):
    """Of each call its number and a list of its whole numbers."""
    found = []
    at = 0
    while at < len(calls):
        begin = at + 2
        end = begin + calls[at + 1]
        found.append((calls[at], calls[begin:end]))
        # No call has lists: behind its numbers stands only that they are 0.
        at = end + 1
    return found


def answer_call(piece, call, numbers):
    """The numbers that are answered to one call on the piece."""
    if call == SUBJECT_CALL:
        return piece.take_subject(numbers[0], numbers[1:])
    if call == COUNTER_CALL:
        return piece.take_counter(numbers)
    if call == PRICES_CALL:
        return piece.take_prices(numbers)
    if call == ANSWER_CALL:
        return piece.tell_answer()
    if call == LINE_CALL:
        return piece.tell_line(numbers[0])
    if call == SWAP_CALL:
        return piece.tell_swap(numbers[0])
    if call == SWAPS_CALL:
        return piece.tell_swaps()
    if call == ENTER_CALL:
        return piece.take_entry(numbers[0], numbers[1], numbers[2], numbers[3])
    if call == BEST_CALL:
        return piece.tell_best(numbers[0], numbers[1], numbers[2])
    if call == DROP_CALL:
        return piece.drop_entry()
    if call == COST_CALL:
        return piece.tell_cost()
    if call == BAD_CALL:
        return piece.tell_bad(numbers[0], numbers[1])
    if call == ENTRIES_CALL:
        return piece.tell_entries()
    raise NotImplementedError(f"there is no call {call}")


def answers(calls):
    """For each call, in order, how many numbers are answered, and these."""
    piece = Piece()
    told = []
    for call, numbers in read_calls(calls):
        answered = answer_call(piece, call, numbers)
        told.append(len(answered))
        told.extend(answered)
    return told
