import unittest

from calling import FAR, asked, counter, last, line, note, notes, prices, rest, subject

# Each price another one, so that it shows which was taken: on the beat 1 to 7, off it 11 to 17.
TOLD_APART = [1, 2, 3, 4, 5, 6, 7, 11, 12, 13, 14, 15, 16, 17, 100, 16]
ON_BEAT = [0, 10, 0, 6, 0, 0, 10]
OFF_BEAT = [0, 3, 0, 2, 0, 0, 3]


def cost(subject_events, counter_events):
    """What the two lines cost by the first prices."""
    return last(subject(28, subject_events), counter(counter_events))[2]


def cost_apart(subject_events, counter_events):
    """What the two lines cost by prices that can be told apart."""
    return last(prices(TOLD_APART), subject(28, subject_events), counter(counter_events))[2]


class CounterTest(unittest.TestCase):
    def test_tells_events_length_and_cost(self):
        # At 0 a gap of 5, 16 of 3 (6), 24 of 1 off the beat (3), 32 of 1 (10), 40 of 4 off the beat.
        theme = notes([28, 30, 32])
        other = note(33, 24) + note(31, 16) + note(36, 8)
        self.assertEqual(last(subject(28, theme), counter(other)), [3, 48, 19])

    def test_is_kept_beside_the_subject(self):
        theme = notes([28, 30])
        other = rest(4) + note(33, 24)
        told = asked(subject(28, theme), counter(other), line(2), line(0))
        self.assertEqual(told[1:], [[2, 28, 6], [2] + other, [2] + theme])

    def test_a_later_counter_takes_the_place_of_the_one_before(self):
        told = asked(subject(28, notes([28])), counter(notes([29])), counter(notes([30, 31])), line(2))
        self.assertEqual(told[1:], [[1, 16, 10], [2, 32, 0], [2] + notes([30, 31])])

    def test_one_event_and_sixteen(self):
        theme = subject(28, notes([28]))
        self.assertEqual(last(theme, counter(rest(1))), [1, 1, 0])
        self.assertEqual(last(theme, counter(notes([30] * 16, 512))), [16, 8192, 0])

    def test_lengths_and_steps_at_their_edges(self):
        events = note(0, 1) + note(69, 512) + rest(1) + rest(512)
        self.assertEqual(asked(subject(28, notes([28])), counter(events), line(2))[2], [4] + events)


class MeetingTest(unittest.TestCase):
    def test_first_prices_on_the_beat_by_gap(self):
        for gap in range(7):
            self.assertEqual(cost(note(28, 16), note(28 + gap, 16)), ON_BEAT[gap], gap)

    def test_first_prices_off_the_beat_by_gap(self):
        for gap in range(7):
            self.assertEqual(cost(rest(8) + note(28, 8), rest(8) + note(28 + gap, 8)), OFF_BEAT[gap], gap)

    def test_gaps_are_what_is_left_by_seven_either_way(self):
        for gap in range(29):
            self.assertEqual(cost_apart(note(28, 16), note(28 + gap, 16)), 1 + gap % 7, gap)
            self.assertEqual(cost_apart(note(28, 16), note(28 - gap, 16)), 1 + gap % 7, gap)

    def test_on_the_beat_or_off_it_by_the_time(self):
        for time in (1, 8, 15, 17, 24, 31, 33):
            self.assertEqual(cost_apart(rest(time) + note(28, 1), rest(time) + note(29, 1)), 12, time)
        for time in (16, 32, 48, 512):
            self.assertEqual(cost_apart(rest(time) + note(28, 1), rest(time) + note(29, 1)), 2, time)

    def test_a_note_that_goes_on_meets_each_that_begins(self):
        # At 0 a gap of 1 (10), at 8 of 3 off the beat (2), at 16 of 1 (10).
        self.assertEqual(cost(note(28, 32), note(29, 8) + note(31, 8) + note(29, 16)), 22)
        self.assertEqual(cost(note(29, 8) + note(31, 8) + note(29, 16), note(28, 32)), 22)

    def test_one_time_at_which_both_begin_is_one_meeting(self):
        self.assertEqual(cost(notes([28, 28]), notes([29, 29])), 20)

    def test_none_where_a_rest_is_on(self):
        self.assertEqual(cost(note(28, 16), rest(16)), 0)
        self.assertEqual(cost(rest(16), note(29, 16)), 0)
        self.assertEqual(cost(rest(16), rest(16)), 0)
        self.assertEqual(cost(note(28, 32), note(29, 8) + rest(8) + note(29, 16)), 20)
        self.assertEqual(cost(note(28, 8) + rest(8) + note(28, 16), note(29, 32)), 20)

    def test_none_where_one_line_has_ended(self):
        self.assertEqual(cost(note(28, 16), notes([29, 29, 29])), 10)
        self.assertEqual(cost(notes([28, 28, 28]), note(29, 16)), 10)
        self.assertEqual(cost(note(28, 17), notes([29, 29, 29])), 20)

    def test_none_where_one_ends_as_the_other_begins(self):
        self.assertEqual(cost(note(28, 16), rest(16) + note(29, 16)), 0)
        self.assertEqual(cost(rest(16) + note(28, 16), note(29, 16)), 0)


class ParallelTest(unittest.TestCase):
    def test_both_up(self):
        self.assertEqual(cost(notes([28, 29]), notes([35, 36])), 8)
        self.assertEqual(cost(notes([28, 29]), notes([32, 33])), 8)

    def test_both_down(self):
        self.assertEqual(cost(notes([29, 28]), notes([36, 35])), 8)
        self.assertEqual(cost(notes([29, 28]), notes([33, 32])), 8)

    def test_by_a_leap_and_across_octaves(self):
        self.assertEqual(cost(notes([28, 33]), notes([28, 40])), 8)
        self.assertEqual(cost(notes([28, 30]), notes([24, 26])), 8)

    def test_a_gap_is_the_same_either_way(self):
        # 32 is 4 above 28, then 33 is 4 below 37.
        self.assertEqual(cost(notes([28, 37]), notes([32, 33])), 8)

    def test_each_time_again(self):
        self.assertEqual(cost(notes([28, 29, 30]), notes([35, 36, 37])), 16)

    def test_off_the_beat_as_well(self):
        self.assertEqual(cost(notes([28, 29], 8), notes([35, 36], 8)), 8)

    def test_are_added_to_what_the_gap_costs(self):
        self.assertEqual(cost_apart(notes([28, 29]), notes([35, 36])), 1 + 1 + 100)
        self.assertEqual(cost_apart(notes([28, 29], 8), notes([32, 33], 8)), 5 + 15 + 100)

    def test_none_by_other_gaps(self):
        for gap in (1, 2, 3, 5, 6):
            self.assertEqual(cost_apart(notes([28, 29]), notes([28 + gap, 29 + gap])), 2 * (1 + gap), gap)

    def test_none_where_what_is_left_is_another(self):
        self.assertEqual(cost(notes([28, 30]), notes([32, 37])), 0)
        self.assertEqual(cost(notes([28, 29]), notes([35, 40])), 0)

    def test_none_where_a_voice_stays(self):
        self.assertEqual(cost(notes([28, 28]), notes([28, 35])), 0)
        self.assertEqual(cost(notes([28, 35]), notes([28, 28])), 0)
        self.assertEqual(cost(notes([28, 28]), notes([32, 32])), 0)
        self.assertEqual(cost(notes([35, 28]), notes([39, 39])), 0)
        self.assertEqual(cost(notes([28, 28]), notes([35, 28])), 0)

    def test_none_where_a_voice_goes_the_other_way(self):
        self.assertEqual(cost(notes([28, 27]), notes([32, 38])), 0)
        self.assertEqual(cost(notes([28, 29]), notes([39, 33])), 0)
        self.assertEqual(cost(notes([28, 30]), notes([24, 19])), 0)

    def test_none_where_the_time_ahead_is_no_meeting(self):
        broken = note(28, 8) + rest(8) + note(29, 16)
        self.assertEqual(cost(broken, notes([35, 36])), 0)
        self.assertEqual(cost(notes([35, 36]), broken), 0)
        self.assertEqual(cost(broken, note(35, 8) + rest(8) + note(36, 16)), 0)

    def test_none_at_the_first_meeting(self):
        self.assertEqual(cost(rest(16) + note(28, 16), notes([27, 28])), 0)

    def test_the_time_ahead_is_the_last_at_which_an_event_begins(self):
        # A gap of 1 off the beat (3) stands between the two octaves.
        self.assertEqual(cost(notes([28, 29]), note(35, 8) + note(36, 8) + note(36, 16)), 3)
        # The octave is still there at 8, and both go up from it.
        self.assertEqual(cost(notes([28, 29]), note(35, 8) + note(35, 8) + note(36, 16)), 8)


class CounterRefusalTest(unittest.TestCase):
    def test_no_list_of_events(self):
        for events in ([0], [1, 28], [2, 28, 8], [0, 0], [0, 513], [1, 28, 0], [1, 28, 513], [1, -1, 8],
                       [1, 70, 8], [1, 28, FAR], [1, -FAR, 8], [0, 8, 0], [1, 28, 8, 1]):
            self.assertEqual(last(subject(28, notes([28])), counter(events)), [-2], events)

    def test_no_subject(self):
        self.assertEqual(last(counter(notes([28]))), [-7])

    def test_none_or_more_than_sixteen(self):
        theme = subject(28, notes([28]))
        self.assertEqual(last(theme, counter([])), [-5])
        self.assertEqual(last(theme, counter(notes([28] * 17))), [-5])
        self.assertEqual(last(theme, counter(notes([28] * 19) + rest(1))), [-5])

    def test_of_several_the_first(self):
        self.assertEqual(last(counter([1, 70, 8])), [-2])
        self.assertEqual(last(counter([])), [-7])
        self.assertEqual(last(counter(notes([28] * 17))), [-7])
        self.assertEqual(last(subject(28, notes([28])), counter(rest(1) * 17 + [0])), [-2])

    def test_nothing_is_changed(self):
        before = [subject(28, notes([28, 32])), counter(notes([33, 34]))]
        for refused in ([1, 40], [], notes([40] * 17)):
            told = asked(*(before + [counter(refused), line(2), line(0)]))
            self.assertEqual(told[3:], [[2] + notes([33, 34]), [2] + notes([28, 32])], refused)

    def test_a_refused_counter_is_none(self):
        self.assertEqual(asked(subject(28, notes([28])), counter([]), line(2))[1:], [[-5], [-7]])


if __name__ == "__main__":
    unittest.main()
