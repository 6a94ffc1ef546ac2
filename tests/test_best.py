import unittest

from calling import FAR, asked, best, cost, counter, enter, entries, last, note, notes, prices, rest, subject

# Each price another one, so that it shows which was taken: on the beat 1 to 7, off it 11 to 17.
TOLD_APART = [1, 2, 3, 4, 5, 6, 7, 11, 12, 13, 14, 15, 16, 17, 100, 16]

THEME = subject(28, notes([28, 32]))
OTHER = counter(note(30, 20))
EIGHT = [enter(0, time, 0, voice) for time in (0, 32) for voice in range(4)]


def best_against(*steps):
    """The best octave of a counter line of these steps, against a subject that stays on 28."""
    return last(subject(28, notes([28] * len(steps))), counter(notes(steps)), enter(0, 0, 0, 0), best(2, 0, 1))


class BestTest(unittest.TestCase):
    def test_with_no_other_entry(self):
        for kind in range(4):
            self.assertEqual(last(THEME, OTHER, best(kind, 5, 2)), [0, 0], kind)

    def test_each_octave_where_it_alone_is_the_best_or_the_first(self):
        # 3 above costs 6, and so 10 above; 4 below costs nothing.
        self.assertEqual(best_against(28 + 4), [0, 0])
        self.assertEqual(best_against(28 + 3), [0, -1])
        self.assertEqual(best_against(28 - 3), [0, 1])
        self.assertEqual(best_against(28 + 10), [0, -2])
        self.assertEqual(best_against(28 - 10), [0, 2])

    def test_of_as_good_ones_the_first(self):
        # A step apart costs 10 in every octave.
        self.assertEqual(best_against(29), [10, 0])
        # One note is well placed from some octave up, the other from some octave down: 6 at either end, 12 between.
        self.assertEqual(best_against(28 - 3, 28 + 3), [6, -1])
        self.assertEqual(best_against(28 - 3, 28 + 10), [6, 1])
        self.assertEqual(best_against(28 - 10, 28 + 10), [6, -2])

    def test_a_later_one_that_costs_less(self):
        # From -2 down two notes are well placed, from 1 up only one is.
        self.assertEqual(best_against(28 - 3, 28 + 10, 28 + 10), [6, -2])
        self.assertEqual(best_against(28 - 10, 28 - 10, 28 + 3), [6, 2])

    def test_no_octave_beyond_these(self):
        self.assertEqual(best_against(28 + 17), [6, 0])
        self.assertEqual(best_against(28 - 17), [6, 0])

    def test_counts_all_entries_of_other_voices(self):
        # 29 against 28 and 29: an octave lower what is left of the first would be 6.
        told = asked(prices(TOLD_APART), subject(28, note(28, 16)), counter(note(29, 16)), enter(0, 0, 0, 0),
                     enter(2, 0, 0, 2), best(2, 0, 1))
        self.assertEqual(told[5], [2 + 1, 0])

    def test_an_entry_of_its_own_voice_costs_nothing(self):
        told = asked(prices(TOLD_APART), subject(28, note(28, 16)), enter(0, 0, 0, 1), best(0, 16, 1),
                     enter(0, 16, 0, 0), best(0, 16, 1))
        self.assertEqual([told[3], told[5]], [[0, 0], [1, 0]])

    def test_parallels_count(self):
        # At the fifth both go up; an octave lower the gap is 3, which costs 4 here, but there are no parallels.
        told = asked(prices(TOLD_APART), subject(28, notes([28, 29])), counter(notes([32, 33])), enter(0, 0, 0, 0),
                     best(2, 0, 1))
        self.assertEqual(told[4], [4 + 4, -1])

    def test_the_time_is_the_entrys_own(self):
        told = asked(prices(TOLD_APART), subject(28, note(28, 32)), counter(note(28, 4)), enter(0, 0, 0, 0),
                     best(2, 8, 1), best(2, 16, 1), best(2, 31, 1), best(2, 32, 1), best(0, 31, 1), best(3, 8, 1))
        self.assertEqual(told[4:], [[11, 0], [1, 0], [11, 0], [0, 0], [11, 0], [14, -1]])

    def test_is_what_enter_then_answers(self):
        before = [subject(28, notes([28, 30, 32])), counter(rest(3) + note(31, 20)), enter(0, 0, 0, 0),
                  enter(1, 20, -1, 1)]
        tried = {octaves: last(*before, enter(2, 9, octaves, 2))[1] for octaves in (0, -1, 1, -2, 2)}
        least, octaves = last(*before, best(2, 9, 2))
        self.assertGreater(len(set(tried.values())), 1)
        self.assertEqual([least, tried[octaves]], [min(tried.values())] * 2)

    def test_nothing_is_changed(self):
        told = asked(THEME, OTHER, enter(0, 0, 0, 0), enter(2, 5, -1, 1), entries(), cost(), best(1, 8, 2),
                     entries(), cost(), best(1, 8, 2), enter(1, 8, 0, 2))
        self.assertEqual(told[7:10], told[4:7])
        self.assertEqual(told[10][0], 3)

    def test_answers_with_eight_there(self):
        told = asked(THEME, *EIGHT, best(0, 64, 0), entries())
        self.assertEqual(told[9], [0, 0])
        self.assertEqual(told[10][0], 8)


class BestRefusalTest(unittest.TestCase):
    def test_just_outside_each_range_and_far_out(self):
        for numbers in ((-1, 0, 0), (4, 0, 0), (0, -1, 0), (0, 8193, 0), (0, 0, -1), (0, 0, 4)):
            self.assertEqual(last(THEME, OTHER, best(*numbers)), [-1], numbers)
        for place in range(3):
            for far in (-FAR, FAR):
                numbers = [0, 0, 0]
                numbers[place] = far
                self.assertEqual(last(THEME, OTHER, best(*numbers)), [-1], numbers)

    def test_the_ends_of_each_range(self):
        for numbers in ((0, 0, 0), (3, 0, 3), (0, 8192, 0), (3, 8192, 3), (1, 8192, 3), (2, 0, 0)):
            self.assertEqual(last(THEME, OTHER, best(*numbers)), [0, 0], numbers)

    def test_no_subject(self):
        for kind in range(4):
            self.assertEqual(last(best(kind, 0, 0)), [-7], kind)

    def test_no_counter_line_for_its_kinds_alone(self):
        self.assertEqual([last(THEME, best(kind, 0, 0)) for kind in range(4)], [[0, 0], [0, 0], [-7], [-7]])

    def test_overlaps(self):
        before = [THEME, OTHER, enter(0, 100, 0, 1)]
        for kind, time in ((0, 69), (0, 100), (0, 131), (1, 69), (2, 81), (3, 81), (2, 106), (3, 131)):
            self.assertEqual(last(*before, best(kind, time, 1)), [-4], (kind, time))
            self.assertNotEqual(last(*before, best(kind, time, 0)), [-4], (kind, time))
        for kind, time in ((0, 68), (0, 132), (1, 68), (2, 80), (3, 80), (2, 132)):
            self.assertEqual(last(*before, best(kind, time, 1)), [0, 0], (kind, time))

    def test_of_several_the_first(self):
        for numbers in ((4, 0, 0), (0, 8193, 0), (0, 0, 4)):
            self.assertEqual(last(best(*numbers)), [-1], numbers)
            self.assertEqual(last(THEME, enter(0, 0, 0, 0), best(*numbers)), [-1], numbers)
        self.assertEqual(last(THEME, best(2, 8193, 0)), [-1])
        self.assertEqual(last(THEME, enter(0, 0, 0, 0), best(2, 0, 0)), [-7])
        self.assertEqual(last(THEME, *EIGHT, best(0, 63, 0)), [-4])

    def test_nothing_is_changed(self):
        before = [THEME, enter(0, 0, 0, 0), enter(1, 8, 1, 1)]
        for refused in (best(4, 0, 0), best(2, 100, 0), best(0, 31, 0)):
            told = asked(*before, entries(), cost(), refused, entries(), cost())
            self.assertLess(told[5][0], 0)
            self.assertEqual(told[6:], told[3:5])


if __name__ == "__main__":
    unittest.main()
