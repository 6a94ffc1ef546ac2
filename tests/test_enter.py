import unittest

from calling import (FAR, asked, best, cost, counter, drop, enter, entries, last, note, notes, prices, rest,
                     subject)

# Each price another one, so that it shows which was taken: on the beat 1 to 7, off it 11 to 17.
TOLD_APART = [1, 2, 3, 4, 5, 6, 7, 11, 12, 13, 14, 15, 16, 17, 100, 16]

# The subject and its answer are 32 long, both counter lines 20.
THEME = subject(28, notes([28, 32]))
OTHER = counter(note(30, 20))
LENGTHS = (32, 32, 20, 20)

# Eight entries, two of each voice, that stand from time 0 to 64.
EIGHT = [enter(0, time, 0, voice) for time in (0, 32) for voice in range(4)]


def cost_apart(theme, other, *entered):
    """What the last entry costs against the others, by prices that can be told apart."""
    return last(prices(TOLD_APART), subject(28, theme), counter(other), *entered)[1]


class EnterTest(unittest.TestCase):
    def test_tells_how_many_and_what_the_new_one_costs(self):
        # 28 32, then its answer 32 35 from 16 on: 32 against 32 at 16.
        # The third is 28 from 17 on: 4 below both, off the beat; at 32 it is 7 below 35, and the first has ended;
        # at 33 it is 32, 3 below 35, off the beat.
        told = asked(THEME, enter(0, 0, 0, 0), enter(1, 16, 0, 1), enter(0, 17, 0, 2))
        self.assertEqual(told[1:], [[1, 0], [2, 0], [3, 2]])

    def test_costs_against_all_of_other_voices(self):
        told = asked(prices(TOLD_APART), subject(28, note(28, 16)), counter(note(30, 16)), enter(0, 0, 0, 0),
                     enter(0, 0, 0, 1), enter(2, 0, 0, 2), enter(2, 0, 1, 3))
        self.assertEqual(told[3:], [[1, 0], [2, 1], [3, 3 + 3], [4, 3 + 3 + 1]])

    def test_costs_nothing_against_its_own_voice(self):
        told = asked(prices(TOLD_APART), subject(28, note(28, 16)), enter(0, 0, 0, 0), enter(0, 16, 0, 0),
                     enter(0, 8, 0, 1), enter(0, 24, 0, 1))
        self.assertEqual(told[2:], [[1, 0], [2, 0], [3, 11 + 1], [4, 11]])

    def test_the_line_of_each_kind(self):
        # In the head 28 is answered by 32 and 32 by 35; all stand against 29 and 30.
        theme = notes([28, 32])
        other = notes([29, 30])
        against = enter(2, 0, 0, 0)
        self.assertEqual(cost_apart(theme, other, against, enter(0, 0, 0, 1)), 2 + 3)
        self.assertEqual(cost_apart(theme, other, against, enter(1, 0, 0, 1)), 4 + 6)
        self.assertEqual(cost_apart(theme, other, against, enter(2, 0, 0, 1)), 1 + 1 + 100)
        self.assertEqual(cost_apart(theme, other, against, enter(3, 0, 0, 1)), 5 + 5 + 100)

    def test_octaves_are_seven_steps(self):
        # The counter line is 3 above; an octave lower it is 4 below.
        for octaves, price in ((-4, 5), (-2, 5), (-1, 5), (0, 4), (1, 4), (4, 4)):
            told = cost_apart(note(28, 16), note(31, 16), enter(0, 0, 0, 0), enter(2, 0, octaves, 1))
            self.assertEqual(told, price, octaves)
        # So it is where the subject goes the other way.
        for octaves, price in ((-4, 4), (0, 4), (1, 5), (4, 5)):
            told = cost_apart(note(28, 16), note(31, 16), enter(0, 0, octaves, 0), enter(2, 0, 0, 1))
            self.assertEqual(told, price, octaves)

    def test_on_the_beat_or_off_it_by_the_time_itself(self):
        for time, price in ((0, 2), (1, 12), (8, 12), (15, 12), (16, 2), (17, 12), (8176, 2), (8191, 12), (8192, 2)):
            told = cost_apart(note(28, 16), note(29, 16), enter(0, time, 0, 0), enter(2, time, 0, 1))
            self.assertEqual(told, price, time)
        # Within an entry that begins at 8 the second note begins on the beat.
        self.assertEqual(cost_apart(notes([28, 28], 8), note(29, 16), enter(0, 8, 0, 0), enter(2, 8, 0, 1)), 12 + 2)
        self.assertEqual(cost_apart(notes([28, 28], 8), note(29, 16), enter(0, 16, 0, 0), enter(2, 16, 0, 1)), 2 + 12)

    def test_a_note_that_is_on_meets_each_that_begins(self):
        # 28 is on from 4 to 36; 29 begins at 16 and 20, 30 at 35.
        theme = note(28, 32)
        other = note(29, 4) + note(29, 15) + note(30, 1) + note(30, 8)
        self.assertEqual(cost_apart(theme, other, enter(0, 4, 0, 3), enter(2, 16, 0, 2)), 2 + 12 + 13)
        self.assertEqual(cost_apart(theme, other, enter(2, 16, 0, 2), enter(0, 4, 0, 3)), 2 + 12 + 13)

    def test_none_where_one_voice_has_ended(self):
        self.assertEqual(cost_apart(note(28, 16), note(29, 16), enter(0, 0, 0, 0), enter(2, 15, 0, 1)), 12)
        self.assertEqual(cost_apart(note(28, 16), note(29, 16), enter(0, 0, 0, 0), enter(2, 16, 0, 1)), 0)
        self.assertEqual(cost_apart(note(28, 16), note(29, 16), enter(0, 16, 0, 0), enter(2, 0, 0, 1)), 0)
        self.assertEqual(cost_apart(note(28, 16), note(29, 16), enter(0, 900, 0, 0), enter(2, 0, 0, 1)), 0)

    def test_none_where_a_voice_rests(self):
        broken = note(29, 8) + rest(8) + note(29, 8)
        self.assertEqual(cost_apart(note(28, 8), broken, enter(2, 0, 0, 0), enter(0, 8, 0, 1)), 0)
        self.assertEqual(cost_apart(note(28, 8), broken, enter(2, 0, 0, 0), enter(0, 7, 0, 1)), 12)
        self.assertEqual(cost_apart(note(28, 8), broken, enter(2, 0, 0, 0), enter(0, 9, 0, 1)), 2)
        self.assertEqual(cost_apart(rest(24), broken, enter(2, 0, 0, 0), enter(0, 0, 0, 1)), 0)

    def test_after_other_prices_by_these(self):
        told = asked(subject(28, note(28, 16)), counter(note(29, 16)), enter(0, 0, 0, 0), prices(TOLD_APART),
                     enter(2, 0, 0, 1))
        self.assertEqual(told[4], [2, 2])

    def test_steps_far_below_and_above(self):
        theme = note(0, 16)
        self.assertEqual(cost_apart(theme, note(69, 16), enter(0, 0, -4, 0), enter(3, 0, 4, 1)), 1 + (69 + 4 + 56) % 7)


class ParallelsOfEntriesTest(unittest.TestCase):
    def test_up_and_down(self):
        for theme, other in (((28, 29), (35, 36)), ((29, 28), (36, 35))):
            told = cost_apart(notes(theme), notes(other), enter(0, 32, 0, 0), enter(2, 32, 0, 1))
            self.assertEqual(told, 1 + 1 + 100, theme)
        for theme, other in (((28, 29), (32, 33)), ((29, 28), (33, 32))):
            told = cost_apart(notes(theme), notes(other), enter(0, 24, 0, 0), enter(2, 24, 0, 1))
            self.assertEqual(told, 15 + 15 + 100, theme)

    def test_none_by_other_gaps_or_where_a_voice_stays(self):
        self.assertEqual(cost_apart(notes([28, 29]), notes([30, 31]), enter(0, 0, 0, 0), enter(2, 0, 0, 1)), 3 + 3)
        self.assertEqual(cost_apart(notes([28, 28]), notes([28, 35]), enter(0, 0, 0, 0), enter(2, 0, 0, 1)), 1 + 1)
        self.assertEqual(cost_apart(notes([28, 29]), notes([35, 29]), enter(0, 0, 0, 0), enter(2, 0, 0, 1)), 1 + 1)

    def test_between_parts_of_lines_that_begin_at_different_times(self):
        # 29 30 of the subject stands against 36 37 of the counter line.
        told = cost_apart(notes([28, 29, 30]), notes([36, 37]), enter(0, 0, 0, 0), enter(2, 16, 0, 1))
        self.assertEqual(told, 1 + 1 + 100)

    def test_kept_apart_by_a_rest(self):
        broken = note(28, 8) + rest(8) + note(29, 16)
        self.assertEqual(cost_apart(broken, notes([35, 36]), enter(0, 0, 0, 0), enter(2, 0, 0, 1)), 1 + 1)
        self.assertEqual(cost_apart(notes([35, 36]), broken, enter(0, 0, 0, 0), enter(2, 0, 0, 1)), 1 + 1)

    def test_kept_apart_by_another_begin(self):
        # At 8 the counter line's 36 is a step too high.
        other = note(35, 8) + note(36, 8) + note(36, 16)
        self.assertEqual(cost_apart(notes([28, 29]), other, enter(0, 0, 0, 0), enter(2, 0, 0, 1)), 1 + 12 + 1)
        # At 8 the octave is still there, and both go up from it.
        other = note(35, 8) + note(35, 8) + note(36, 16)
        self.assertEqual(cost_apart(notes([28, 29]), other, enter(0, 0, 0, 0), enter(2, 0, 0, 1)), 1 + 11 + 1 + 100)

    def test_none_from_one_entry_of_a_voice_to_its_next(self):
        # 28 and 35 stand against 28 and 35, but those are two entries: each costs for itself.
        told = asked(prices(TOLD_APART), subject(28, note(28, 16)), counter(notes([28, 35])), enter(2, 0, 0, 0),
                     enter(0, 0, 0, 1), enter(0, 16, 1, 1))
        self.assertEqual(told[3:], [[1, 0], [2, 1], [3, 1]])


class EnterRangeTest(unittest.TestCase):
    def test_just_outside_each_range_and_far_out(self):
        for numbers in ((-1, 0, 0, 0), (4, 0, 0, 0), (0, -1, 0, 0), (0, 8193, 0, 0), (0, 0, -5, 0), (0, 0, 5, 0),
                        (0, 0, 0, -1), (0, 0, 0, 4)):
            self.assertEqual(asked(THEME, OTHER, enter(*numbers), entries())[2:], [[-1], [0]], numbers)
        for place in range(4):
            for far in (-FAR, FAR):
                numbers = [0, 0, 0, 0]
                numbers[place] = far
                self.assertEqual(asked(THEME, OTHER, enter(*numbers), entries())[2:], [[-1], [0]], numbers)

    def test_the_ends_of_each_range(self):
        for numbers in ((0, 0, -4, 0), (3, 0, 4, 3), (1, 8192, 0, 0), (2, 8192, -4, 3), (3, 8192, 4, 3)):
            told = asked(THEME, OTHER, enter(*numbers), entries())
            self.assertEqual(told[2:], [[1, 0], [1] + list(numbers)], numbers)

    def test_ahead_of_all_other_refusals(self):
        wrong = ((4, 0, 0, 0), (0, 8193, 0, 0), (0, 0, 5, 0), (0, 0, 0, 4))
        for numbers in wrong:
            self.assertEqual(last(enter(*numbers)), [-1], numbers)
            self.assertEqual(last(THEME, enter(0, 0, 0, 0), enter(*numbers)), [-1], numbers)
            self.assertEqual(last(THEME, *EIGHT, enter(*numbers)), [-1], numbers)
        self.assertEqual(last(THEME, enter(2, 0, 5, 0)), [-1])


class EnterRefusalTest(unittest.TestCase):
    def test_no_subject(self):
        for kind in range(4):
            self.assertEqual(asked(enter(kind, 0, 0, 0), entries()), [[-7], [0]], kind)

    def test_no_counter_line_for_its_kinds_alone(self):
        self.assertEqual(last(THEME, enter(0, 0, 0, 0)), [1, 0])
        self.assertEqual(last(THEME, enter(1, 0, 0, 0)), [1, 0])
        for kind in (2, 3):
            self.assertEqual(asked(THEME, enter(kind, 0, 0, 0), entries())[1:], [[-7], [0]], kind)
            self.assertEqual(last(THEME, OTHER, enter(kind, 0, 0, 0)), [1, 0], kind)
            self.assertEqual(last(THEME, OTHER, THEME, enter(kind, 0, 0, 0)), [-7], kind)

    def test_no_line_ahead_of_overlaps_and_of_eight(self):
        for kind in (2, 3):
            self.assertEqual(last(THEME, enter(0, 0, 0, 0), enter(kind, 0, 0, 0)), [-7], kind)
            self.assertEqual(last(THEME, *EIGHT, enter(kind, 0, 0, 0)), [-7], kind)
            self.assertEqual(last(THEME, *EIGHT, enter(kind, 64, 0, 0)), [-7], kind)

    def test_overlaps_by_the_lengths_of_both_lines(self):
        for there in range(4):
            for kind in range(4):
                first, end = 100 - LENGTHS[kind], 100 + LENGTHS[there]
                before = [THEME, OTHER, enter(there, 100, 0, 1)]
                for time in (first + 1, 99, 100, 101, end - 1):
                    self.assertEqual(last(*before, enter(kind, time, 2, 1)), [-4], (there, kind, time))
                for time in (0, first - 1, first, end, end + 1, 8192):
                    self.assertEqual(last(*before, enter(kind, time, 2, 1)), [2, 0], (there, kind, time))

    def test_one_within_the_other(self):
        self.assertEqual(last(THEME, OTHER, enter(0, 100, 0, 0), enter(2, 106, 0, 0)), [-4])
        self.assertEqual(last(THEME, OTHER, enter(2, 106, 0, 0), enter(0, 100, 0, 0)), [-4])
        self.assertEqual(last(THEME, OTHER, enter(0, 100, 0, 0), enter(2, 112, 0, 0)), [-4])
        self.assertEqual(last(THEME, OTHER, enter(2, 112, 0, 0), enter(0, 100, 0, 0)), [-4])

    def test_rests_are_of_the_length(self):
        theme = subject(28, rest(10) + note(28, 10) + rest(10))
        for time in (71, 95, 129):
            self.assertEqual(last(theme, enter(0, 100, 0, 0), enter(0, time, 0, 0)), [-4], time)
        for time in (70, 130):
            self.assertEqual(last(theme, enter(0, 100, 0, 0), enter(0, time, 0, 0)), [2, 0], time)

    def test_any_entry_of_the_voice_not_the_last_alone(self):
        before = [THEME, enter(0, 0, 0, 0), enter(0, 96, 0, 0), enter(0, 50, 0, 1)]
        for time in (31, 65, 127):
            self.assertEqual(last(*before, enter(0, time, 0, 0)), [-4], time)
        self.assertEqual(last(*before, enter(0, 32, 0, 0))[0], 4)
        self.assertEqual(last(*before, enter(0, 64, 0, 0))[0], 4)

    def test_no_overlap_between_different_voices(self):
        told = asked(THEME, enter(0, 5, 0, 0), enter(0, 5, 0, 1), enter(0, 5, 0, 2), enter(0, 5, 0, 3))
        self.assertEqual([answered[0] for answered in told[1:]], [1, 2, 3, 4])

    def test_a_dropped_entry_is_overlapped_no_more(self):
        self.assertEqual(last(THEME, enter(0, 0, 0, 0), drop(), enter(0, 16, 0, 0)), [1, 0])

    def test_eight_are_there(self):
        told = asked(THEME, *EIGHT, enter(0, 64, 0, 0), entries())
        self.assertEqual([answered[0] for answered in told[1:9]], [1, 2, 3, 4, 5, 6, 7, 8])
        self.assertEqual(told[9], [-5])
        self.assertEqual(told[10][0], 8)

    def test_after_drop_one_may_enter_again(self):
        told = asked(THEME, *EIGHT, drop(), enter(0, 64, 0, 0), enter(0, 96, 0, 0))
        self.assertEqual([answered[0] for answered in told[9:]], [7, 8, -5])

    def test_overlaps_ahead_of_eight(self):
        self.assertEqual(last(THEME, *EIGHT, enter(0, 63, 0, 0)), [-4])
        self.assertEqual(last(THEME, *EIGHT, enter(0, 64, 0, 0)), [-5])

    def test_nothing_is_changed(self):
        for before, refused in (([OTHER], enter(4, 0, 0, 0)), ([], enter(2, 200, 0, 0)),
                                ([OTHER], enter(2, 31, 0, 0)), (EIGHT[4:] + EIGHT[2:4], enter(0, 64, 0, 0))):
            there = [THEME] + before + EIGHT[:2]
            told = asked(*there, entries(), cost(), best(0, 64, 0), refused, entries(), cost(), best(0, 64, 0))
            self.assertEqual(len(told[-4]), 1)
            self.assertLess(told[-4][0], 0)
            self.assertEqual(told[-3:], told[-7:-4])


if __name__ == "__main__":
    unittest.main()
