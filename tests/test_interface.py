import unittest

from calling import (answer, bad, best, cost, counter, drop, enter, entries, joined, line, note, notes, prices, rest,
                     subject, swap, swaps)
from fugueanswers.fugue import answers

CHEAP = [0] * 15 + [512]
EVERY_CALL = joined([
    subject(28, notes([28, 32]) + rest(5)), counter(note(33, 20)), prices(CHEAP), answer(), line(3), swap(4), swaps(),
    enter(0, 0, 0, 0), enter(2, 8, -1, 1), best(1, 16, 2), enter(1, 16, 0, 2), cost(), bad(0, 1), drop(), entries(),
])
EVERY_REFUSAL = joined([
    answer(), line(0), swap(1), swaps(), counter(notes([28])), subject(70, notes([28])), subject(28, []),
    subject(28, [1, 28]), prices([101] + [0] * 14 + [1]), line(4), swap(0), enter(0, 0, 0, 0), enter(4, 0, 0, 0),
    best(0, 0, 0), best(0, 0, 4), drop(), bad(0, 1),
])
REFUSALS = (-7, -7, -7, -7, -7, -1, -5, -2, -1, -1, -1, -7, -1, -7, -1, -3, -1)


def refuse(*arguments):
    raise AssertionError("what is handed in was changed")


class Untouched(list):
    """A list that fails as soon as it is changed, be it for a while."""

    __setitem__ = __delitem__ = __iadd__ = __imul__ = refuse
    append = clear = extend = insert = pop = remove = reverse = sort = refuse


class InterfaceTest(unittest.TestCase):
    def test_counts_stand_ahead_of_each_answer(self):
        calls = [1, 7, 28, 1, 28, 16, 1, 32, 8, 0, 4, 0, 0, 2, 3, 1, 29, 16, 0, 7, 0, 0, 6, 1, 23, 0]
        told = answers(calls)
        self.assertEqual(told[:16], [3, 2, 24, 2, 7, 1, 1, 32, 16, 1, 35, 8, 3, 1, 16, 10])
        self.assertEqual(told[16], 45)
        self.assertEqual(told[17 + 45:], [1, -1])

    def test_counts_stand_ahead_of_what_is_told_of_entries(self):
        calls = [1, 4, 28, 1, 28, 16, 0, 8, 4, 0, 0, -1, 3, 0, 8, 4, 1, 0, 0, 0, 0, 9, 3, 0, 8, 1, 0, 11, 0, 0,
                 12, 2, 1, 0, 0, 3, 16] + [1] * 16 + [0, 12, 2, 1, 0, 0, 13, 0, 0, 10, 0, 0]
        # The answer's 32 is 11 above the entry's 21; what is left is 4, which costs nothing at first.
        self.assertEqual(answers(calls), [3, 1, 16, 1, 2, 1, 0, 2, 2, 0, 2, 0, 0, 2, 0, 2, 1, 0, 1, 0, 3, 1, 0, 1,
                                          9, 2, 0, 0, -1, 3, 1, 0, 0, 0, 1, 1])

    def test_a_refusal_stands_alone(self):
        self.assertEqual(answers(EVERY_REFUSAL), joined([[1, refusal] for refusal in REFUSALS]))

    def test_gives_back_a_list_of_whole_numbers(self):
        told = answers(EVERY_CALL)
        self.assertIs(type(told), list)
        self.assertEqual([number for number in told if type(number) is not int], [])

    def test_sixty_calls(self):
        calls = subject(28, notes([28] * 16)) + counter(notes([29] * 16)) + swaps() * 58
        told = answers(calls)
        self.assertEqual(len(told), 4 + 4 + 58 * 46)
        self.assertEqual(told[-46:], told[8:54])
        self.assertEqual(told[8:12], [45, 160, 160, 16])

    def test_each_list_of_calls_begins_anew(self):
        questions = joined([answer(), line(0), swap(1), entries(), cost(), drop()])
        expected = [1, -7, 1, -7, 1, -7, 1, 0, 2, 0, 0, 1, -3]
        self.assertEqual(answers(questions), expected)
        answers(EVERY_CALL)
        self.assertEqual(answers(questions), expected)

    def test_prices_are_not_kept_for_the_next_list(self):
        calls = subject(28, notes([28, 29])) + counter(notes([35, 37]))
        expected = [3, 2, 32, 1, 3, 2, 32, 10]
        self.assertEqual(answers(calls), expected)
        answers(prices([50] * 15 + [3]))
        self.assertEqual(answers(calls), expected)

    def test_the_same_calls_have_the_same_answers(self):
        self.assertEqual(answers(EVERY_CALL), answers(EVERY_CALL))

    def test_what_is_handed_in_stays_as_it_was(self):
        for calls in (EVERY_CALL, EVERY_REFUSAL):
            handed_in = Untouched(calls)
            answers(handed_in)
            self.assertEqual(handed_in, calls)

    def test_what_is_given_back_is_a_list_of_its_own(self):
        told = answers(EVERY_CALL)
        kept = list(told)
        told.clear()
        self.assertEqual(answers(EVERY_CALL), kept)


if __name__ == "__main__":
    unittest.main()
