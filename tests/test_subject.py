import unittest

from calling import FAR, answer, asked, call, counter, last, line, note, notes, rest, subject

NO_LISTS = [
    [0],
    [1],
    [1, 28],
    [0, 0],
    [0, 513],
    [0, -1],
    [0, FAR],
    [1, 28, 0],
    [1, 28, 513],
    [1, 28, -FAR],
    [1, -1, 8],
    [1, 70, 8],
    [1, FAR, 8],
    [2, 28, 8],
    [-1, 8],
    [FAR, 8],
    [0, 8, 0],
    [1, 28, 8, 1, 30],
    [1, 28, 8, 30, 8],
    [0, 8, 8],
]


class SubjectTest(unittest.TestCase):
    def test_tells_events_length_and_head(self):
        events = note(28, 16) + note(32, 16) + note(30, 8) + note(28, 24)
        self.assertEqual(last(subject(28, events)), [4, 64, 2])

    def test_rests_count_for_events_and_length(self):
        self.assertEqual(last(subject(28, note(29, 5) + rest(7) + rest(2))), [3, 14, 0])

    def test_one_event_and_sixteen(self):
        self.assertEqual(last(subject(28, note(28, 1))), [1, 1, 1])
        self.assertEqual(last(subject(28, rest(512))), [1, 512, 1])
        self.assertEqual(last(subject(28, notes([30] * 16, 512))), [16, 8192, 0])

    def test_lengths_and_steps_at_their_edges(self):
        events = note(0, 1) + note(69, 512) + rest(1) + rest(512)
        self.assertEqual(asked(subject(28, events), line(0)), [[4, 1026, 1], [4] + events])

    def test_tonic_at_its_edges(self):
        self.assertEqual(last(subject(0, notes([0, 4, 7, 1]))), [4, 64, 3])
        self.assertEqual(last(subject(69, notes([69, 66, 62, 68]))), [4, 64, 3])

    def test_a_later_subject_takes_the_place_of_the_one_before(self):
        told = asked(subject(28, notes([28, 30])), subject(30, notes([30, 34, 31], 4)), line(0))
        self.assertEqual(told, [[2, 32, 1], [3, 12, 2], [3] + notes([30, 34, 31], 4)])

    def test_takes_the_counter_line_away(self):
        events = notes([28, 30])
        told = asked(subject(28, events), counter(notes([33])), subject(28, events), line(2), line(3))
        self.assertEqual(told[-2:], [[-7], [-7]])


class HeadTest(unittest.TestCase):
    def head(self, events, tonic=28):
        return last(subject(tonic, events))[2]

    def test_the_whole_line(self):
        self.assertEqual(self.head(notes([28, 32, 35, 39])), 4)

    def test_no_events(self):
        self.assertEqual(self.head(notes([29, 28, 32])), 0)

    def test_ends_at_each_other_degree(self):
        for step in (29, 30, 31, 33, 34):
            self.assertEqual(self.head(notes([28, 32, step, 28, 32])), 2, step)

    def test_rests_within_it_count(self):
        events = rest(3) + note(28, 4) + rest(5) + note(32, 6) + rest(7) + note(31, 8) + rest(9)
        self.assertEqual(self.head(events), 5)

    def test_rests_alone_are_all_head(self):
        self.assertEqual(self.head(rest(3) + rest(4)), 2)

    def test_rests_ahead_of_another_note(self):
        self.assertEqual(self.head(rest(3) + note(30, 4)), 1)

    def test_notes_below_the_tonic(self):
        # 7 below and 14 below are tonics, 3 below and 10 below dominants, 4 below is neither.
        self.assertEqual(self.head(notes([21, 25, 14, 18, 24, 28])), 4)


class SubjectRefusalTest(unittest.TestCase):
    def test_tonic_out_of_range(self):
        for tonic in (-1, 70, -FAR, FAR):
            self.assertEqual(last(subject(tonic, notes([28]))), [-1], tonic)

    def test_no_list_of_events(self):
        for events in NO_LISTS:
            self.assertEqual(last(subject(28, events)), [-2], events)
            self.assertEqual(last(subject(28, note(28, 8) + events)), [-2], events)

    def test_none_or_more_than_sixteen(self):
        self.assertEqual(last(subject(28, [])), [-5])
        self.assertEqual(last(subject(28, notes([28] * 17))), [-5])
        self.assertEqual(last(subject(28, rest(1) * 29)), [-5])

    def test_of_several_the_first(self):
        self.assertEqual(last(subject(70, [1, 70, 8])), [-1])
        self.assertEqual(last(subject(-1, [])), [-1])
        self.assertEqual(last(subject(-1, notes([28] * 17))), [-1])
        self.assertEqual(last(subject(28, notes([28] * 16) + [1, 70, 8])), [-2])

    def test_nothing_is_changed(self):
        before = [subject(28, notes([28, 32, 30])), counter(notes([33, 34]))]
        after = [line(0), line(2), answer()]
        kept = asked(*(before + after))[2:]
        # A tonic of 29 would make another answer.
        for refused in ([70] + notes([40]), [29, 1, 40], [29], [29] + notes([40] * 17)):
            told = asked(*(before + [call(1, refused)] + after))
            self.assertEqual(len(told[2]), 1, refused)
            self.assertLess(told[2][0], 0, refused)
            self.assertEqual(told[3:], kept, refused)

    def test_a_refused_subject_is_none(self):
        self.assertEqual(asked(subject(70, notes([28])), line(0), answer()), [[-1], [-7], [-7]])


if __name__ == "__main__":
    unittest.main()
