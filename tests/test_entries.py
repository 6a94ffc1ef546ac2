import unittest

from calling import (FAR, answer, asked, bad, best, cost, counter, drop, enter, entries, last, line, note, notes,
                     prices, rest, subject, swap, swaps)

# Each price another one, so that it shows which was taken: on the beat 1 to 7, off it 11 to 17.
TOLD_APART = [1, 2, 3, 4, 5, 6, 7, 11, 12, 13, 14, 15, 16, 17, 100, 16]

THEME = subject(28, notes([28, 29]))
OTHER = counter(notes([35, 36]))
# The subject, the counter line against it, the subject a note later, the counter line an octave lower behind the first.
FOUR = [enter(0, 0, 0, 0), enter(2, 0, 0, 1), enter(0, 16, 0, 2), enter(2, 32, -1, 0)]
FOUR_TOLD = [4, 0, 0, 0, 0, 2, 0, 0, 1, 0, 16, 0, 2, 2, 32, -1, 0]


class DropTest(unittest.TestCase):
    def test_none_there(self):
        self.assertEqual(last(drop()), [-3])
        self.assertEqual(last(THEME, drop()), [-3])
        self.assertEqual(asked(THEME, enter(0, 0, 0, 0), drop(), drop())[2:], [[0], [-3]])

    def test_takes_the_last_one(self):
        told = asked(THEME, OTHER, *FOUR, drop(), entries(), drop(), entries(), drop(), drop(), entries())
        self.assertEqual(told[6:], [[3], [3] + FOUR_TOLD[1:13], [2], [2] + FOUR_TOLD[1:9], [1], [0], [0]])

    def test_leaves_lines_and_prices(self):
        told = asked(THEME, OTHER, enter(0, 0, 0, 0), line(0), line(2), swaps(), drop(), line(0), line(2), swaps())
        self.assertEqual(told[7:], told[3:6])

    def test_what_is_refused_changes_nothing(self):
        told = asked(THEME, OTHER, entries(), cost(), swaps(), drop(), entries(), cost(), swaps())
        self.assertEqual(told[5], [-3])
        self.assertEqual(told[6:], told[2:5])


class CostTest(unittest.TestCase):
    def test_none_there(self):
        self.assertEqual(last(cost()), [0, 0])
        self.assertEqual(last(THEME, OTHER, cost()), [0, 0])

    def test_one_there(self):
        self.assertEqual(last(THEME, enter(0, 0, 0, 0), cost()), [0, 1])

    def test_each_two_of_different_voices(self):
        # Subject and counter line are parallels at 16 (8); at 16 the later subject's 28 is 1 below the first's 29 (10)
        # and 8 below the counter line's 36 (10); at 32 its 29 is 1 above the last one's 28 (10).
        told = asked(THEME, OTHER, *FOUR, cost())
        self.assertEqual(told[2:], [[1, 0], [2, 8], [3, 20], [4, 10], [38, 4]])

    def test_none_of_the_same_voice(self):
        told = asked(prices(TOLD_APART), subject(28, note(28, 16)),
                     *[enter(0, 16 * at, 0, 3) for at in range(8)], cost())
        self.assertEqual(told[-1], [0, 8])

    def test_two_of_a_voice_against_two_of_another(self):
        told = asked(prices(TOLD_APART), subject(28, note(28, 16)), enter(0, 0, 0, 0), enter(0, 16, 0, 0),
                     enter(0, 8, 0, 1), enter(0, 24, 0, 1), cost())
        self.assertEqual(told[-1], [11 + 1 + 11, 4])

    def test_after_other_prices_by_these(self):
        told = asked(THEME, OTHER, *FOUR, prices(TOLD_APART), cost(), prices([0] * 15 + [1]), cost())
        # 1 + 1 + 100 of the first two, 2 and 2 of the third, 2 of the fourth.
        self.assertEqual([told[7], told[9]], [[108, 4], [0, 4]])

    def test_after_drop(self):
        told = asked(THEME, OTHER, *FOUR, drop(), cost(), drop(), cost(), drop(), cost(), drop(), cost())
        self.assertEqual(told[7::2], [[28, 3], [8, 2], [0, 1], [0, 0]])

    def test_eight(self):
        told = asked(prices([1] * 15 + [512]), subject(28, note(28, 512)),
                     *[enter(0, time, octaves, voice) for time, octaves in ((0, 4), (512, -4)) for voice in range(4)],
                     cost())
        self.assertEqual(told[-1], [12, 8])


class BadTest(unittest.TestCase):
    def test_tells_times_and_costs_in_order(self):
        told = asked(prices(TOLD_APART), THEME, OTHER, enter(0, 24, 0, 0), enter(2, 24, 0, 1), bad(0, 1))
        self.assertEqual(told[5], [2, 24, 11, 40, 111])
        # 28 29 from 24, 28 29 from 32: the same step at 32, on the beat, 1 apart at 40, the same again at 48.
        told = asked(prices(TOLD_APART), THEME, enter(0, 24, 0, 0), enter(0, 32, 0, 3), bad(0, 1))
        self.assertEqual(told[4], [3, 32, 1, 40, 12, 48, 1])

    def test_both_orders(self):
        before = [prices(TOLD_APART), THEME, OTHER] + FOUR
        for i in range(4):
            for j in range(i):
                there = asked(*before, bad(i, j), bad(j, i))
                self.assertEqual(there[7], there[8], (i, j))

    def test_each_two_by_their_numbers(self):
        told = asked(THEME, OTHER, *FOUR, bad(0, 1), bad(0, 2), bad(1, 2), bad(2, 3), bad(3, 2), bad(1, 3))
        self.assertEqual(told[6:], [[1, 16, 8], [1, 16, 10], [1, 16, 10], [1, 32, 10], [1, 32, 10], [0]])

    def test_only_meetings_at_which_something_costs(self):
        # A gap of 2 costs nothing, one of 1 does, off the beat too.
        told = asked(subject(28, notes([28, 28, 28], 8)), counter(notes([30, 29, 31], 8)), enter(0, 0, 0, 0),
                     enter(2, 0, 0, 1), bad(0, 1), enter(2, 24, 0, 1), bad(0, 2))
        self.assertEqual([told[4], told[6]], [[2, 8, 3, 16, 6], [0]])

    def test_parallels_cost_where_the_gap_does_not(self):
        self.assertEqual(last(THEME, OTHER, enter(0, 7, 0, 0), enter(2, 7, 0, 1), bad(1, 0)), [1, 23, 8])

    def test_a_gap_costs_where_parallels_do_not(self):
        told = last(prices([1] * 14 + [0, 16]), THEME, OTHER, enter(0, 0, 0, 0), enter(2, 0, 0, 1), bad(0, 1))
        self.assertEqual(told, [2, 0, 1, 16, 1])

    def test_where_nothing_costs(self):
        told = last(prices([0] * 15 + [16]), THEME, OTHER, enter(0, 0, 0, 0), enter(2, 0, 0, 1), bad(0, 1))
        self.assertEqual(told, [0])

    def test_none_where_a_voice_rests_or_has_ended(self):
        theme = subject(28, note(28, 8) + rest(8) + note(28, 8))
        told = asked(prices(TOLD_APART), theme, enter(0, 0, 0, 0), enter(0, 8, 0, 1), enter(0, 24, 0, 2), bad(0, 1),
                     bad(0, 2), bad(1, 2))
        self.assertEqual(told[5:], [[0], [0], [1, 24, 11]])

    def test_entries_of_the_same_voice(self):
        told = asked(prices(TOLD_APART), THEME, enter(0, 0, 0, 2), enter(0, 32, 0, 2), bad(0, 1), bad(1, 0))
        self.assertEqual(told[4:], [[0], [0]])

    def test_sums_are_what_the_entries_cost(self):
        told = asked(prices(TOLD_APART), THEME, OTHER, enter(0, 0, 0, 0), enter(3, 5, 1, 1), cost(), bad(0, 1))
        self.assertEqual(sum(told[6][2::2]), told[5][0])
        self.assertEqual(told[4][1], told[5][0])

    def test_no_such_entry(self):
        before = [THEME, enter(0, 0, 0, 0), enter(0, 0, 0, 1)]
        for i, j in ((-1, 0), (0, -1), (2, 0), (0, 2), (-1, 2), (1, 8), (-2, 1), (FAR, 0), (0, FAR), (-FAR, 1),
                     (1, -FAR), (-FAR, FAR)):
            self.assertEqual(last(*before, bad(i, j)), [-1], (i, j))
        self.assertEqual(last(*before, drop(), bad(0, 1)), [-1])
        self.assertEqual(last(THEME, bad(0, 1)), [-1])
        self.assertEqual(last(bad(0, 1)), [-1])

    def test_the_same_twice(self):
        before = [THEME, enter(0, 0, 0, 0), enter(0, 0, 0, 1)]
        for i in (-1, 0, 1, 2, FAR, -FAR):
            self.assertEqual(last(*before, bad(i, i)), [-1], i)
            self.assertEqual(last(bad(i, i)), [-1], i)

    def test_nothing_is_changed(self):
        for asking in (bad(0, 1), bad(2, 3), bad(0, 0), bad(4, 0), bad(-1, 1)):
            told = asked(THEME, OTHER, *FOUR, entries(), cost(), asking, entries(), cost())
            self.assertEqual(told[9:], told[6:8])


class EntriesTest(unittest.TestCase):
    def test_none_there(self):
        self.assertEqual(last(entries()), [0])
        self.assertEqual(last(THEME, OTHER, entries()), [0])

    def test_each_in_the_order_in_which_they_entered(self):
        self.assertEqual(last(THEME, OTHER, *FOUR, entries()), FOUR_TOLD)
        told = last(THEME, OTHER, enter(3, 8192, -4, 3), enter(1, 0, 4, 3), enter(2, 7, -2, 0), entries())
        self.assertEqual(told, [3, 3, 8192, -4, 3, 1, 0, 4, 3, 2, 7, -2, 0])

    def test_after_drop_and_another(self):
        told = last(THEME, OTHER, *FOUR, drop(), enter(1, 40, 2, 3), entries())
        self.assertEqual(told, [4] + FOUR_TOLD[1:13] + [1, 40, 2, 3])

    def test_eight(self):
        told = last(THEME, *[enter(at % 2, 32 * at, at - 4, at % 4) for at in range(8)], entries())
        expected = [8]
        for at in range(8):
            expected.extend([at % 2, 32 * at, at - 4, at % 4])
        self.assertEqual(told, expected)

    def test_calls_that_only_ask_leave_them(self):
        told = asked(THEME, OTHER, *FOUR, answer(), line(3), swap(5), swaps(), best(1, 3, 3), cost(), bad(0, 1),
                     prices(TOLD_APART), entries())
        self.assertEqual(told[-1], FOUR_TOLD)


class EntriesAndLinesTest(unittest.TestCase):
    def test_a_subject_that_is_taken_leaves_none(self):
        told = asked(THEME, OTHER, *FOUR, THEME, entries(), cost(), drop(), enter(0, 0, 0, 0))
        self.assertEqual(told[6:], [[2, 32, 1], [0], [0, 0], [-3], [1, 0]])

    def test_a_counter_line_that_is_taken_leaves_none(self):
        told = asked(THEME, OTHER, *FOUR, OTHER, entries(), cost(), drop(), enter(2, 0, 0, 0))
        self.assertEqual(told[6:], [[2, 32, 8], [0], [0, 0], [-3], [1, 0]])

    def test_what_is_refused_leaves_all_as_it_was(self):
        asking = [entries(), cost(), bad(0, 1), line(0), line(1), line(2), line(3), swaps()]
        for refused in (subject(70, notes([30])), subject(-1, notes([30])), subject(30, [1]), subject(30, []),
                        subject(30, notes([30] * 17)), counter([1]), counter([]), counter(notes([30] * 17)),
                        prices([0] * 15 + [0])):
            told = asked(THEME, OTHER, *FOUR, *asking, refused, *asking)
            self.assertLess(told[14][0], 0, refused)
            self.assertEqual(told[15:], told[6:14], refused)
            self.assertEqual(told[6], FOUR_TOLD)

    def test_a_counter_line_refused_for_want_of_a_subject(self):
        self.assertEqual(asked(OTHER, entries(), enter(2, 0, 0, 0)), [[-7], [0], [-7]])

    def test_entries_are_of_the_lines_that_are_there(self):
        told = asked(THEME, enter(0, 0, 0, 0), subject(28, notes([28], 8)), enter(0, 0, 0, 0), enter(0, 8, 0, 0),
                     enter(0, 15, 0, 0))
        self.assertEqual(told[3:], [[1, 0], [2, 0], [-4]])


if __name__ == "__main__":
    unittest.main()
