import unittest

from calling import FAR, answer, asked, counter, last, line, note, notes, rest, subject

THEME = note(28, 16) + note(32, 8) + rest(4) + note(30, 2) + note(32, 1)
# The dominant of the head goes up 3 steps, the one behind it 4.
ANSWERED = note(32, 16) + note(35, 8) + rest(4) + note(34, 2) + note(36, 1)
OTHER = rest(4) + note(33, 24)


class AnswerTest(unittest.TestCase):
    def test_tells_how_many_are_otherwise_and_the_events(self):
        self.assertEqual(last(subject(28, THEME), answer()), [1] + ANSWERED)

    def test_a_head_that_is_the_whole_line(self):
        told = last(subject(28, notes([28, 32, 35, 39])), answer())
        self.assertEqual(told, [2] + notes([32, 35, 39, 42]))

    def test_a_head_of_no_events_is_a_fifth_higher(self):
        told = last(subject(28, notes([29, 28, 32])), answer())
        self.assertEqual(told, [0] + notes([33, 32, 36]))

    def test_tonics_alone_are_a_fifth_higher(self):
        self.assertEqual(last(subject(28, notes([28, 21, 30])), answer()), [0] + notes([32, 25, 34]))

    def test_rests_within_the_head_stay_and_do_not_end_it(self):
        theme = rest(3) + note(32, 4) + rest(5) + note(32, 6) + note(33, 7) + rest(8)
        told = last(subject(28, theme), answer())
        self.assertEqual(told, [2] + rest(3) + note(35, 4) + rest(5) + note(35, 6) + note(37, 7) + rest(8))

    def test_rests_alone(self):
        self.assertEqual(last(subject(28, rest(3) + rest(512)), answer()), [0] + rest(3) + rest(512))

    def test_notes_below_the_tonic(self):
        # 25 and 18 are dominants, 21 a tonic, 24 neither.
        told = last(subject(28, notes([25, 18, 21, 24, 25])), answer())
        self.assertEqual(told, [2] + notes([28, 21, 25, 28, 29]))

    def test_by_the_tonic_that_is_given(self):
        self.assertEqual(last(subject(0, notes([4, 0, 2])), answer()), [1] + notes([7, 4, 6]))
        self.assertEqual(last(subject(69, notes([66, 69, 67])), answer()), [1] + notes([69, 73, 71]))

    def test_steps_may_come_to_be_above_69(self):
        self.assertEqual(last(subject(0, notes([67, 63, 69])), answer()), [1] + notes([70, 67, 73]))

    def test_the_head_of_an_answers_answer_is_an_octave_higher(self):
        told = last(subject(28, notes([28, 32, 28])), answer())
        self.assertEqual(last(subject(28, told[1:]), answer()), [2] + notes([35, 39, 35]))

    def test_changes_nothing(self):
        told = asked(subject(28, THEME), counter(OTHER), answer(), answer(), line(0), line(2))
        self.assertEqual(told[2:], [[1] + ANSWERED, [1] + ANSWERED, [5] + THEME, [2] + OTHER])

    def test_no_subject(self):
        self.assertEqual(last(answer()), [-7])


class LineTest(unittest.TestCase):
    def test_of_each_kind(self):
        told = asked(subject(28, THEME), counter(OTHER), line(0), line(1), line(2), line(3))
        raised = rest(4) + note(37, 24)
        self.assertEqual(told[2:], [[5] + THEME, [5] + ANSWERED, [2] + OTHER, [2] + raised])

    def test_a_counter_line_has_no_head(self):
        # 32 is a dominant; a fifth higher all notes go up 4 steps.
        told = last(subject(28, notes([30])), counter(notes([28, 32])), line(3))
        self.assertEqual(told, [2] + notes([32, 36]))

    def test_steps_may_come_to_be_above_69(self):
        told = asked(subject(69, notes([69])), counter(notes([69, 0])), line(1), line(3))
        self.assertEqual(told[2:], [[1] + notes([73]), [2] + notes([73, 4])])

    def test_of_sixteen_events(self):
        told = last(subject(28, notes([28, 32] * 8, 512)), line(1))
        self.assertEqual(told, [16] + notes([32, 35] * 8, 512))

    def test_changes_nothing(self):
        told = asked(subject(28, THEME), counter(OTHER), line(1), line(3), line(0), line(2), line(1), line(3))
        self.assertEqual(told[4:6], [[5] + THEME, [2] + OTHER])
        self.assertEqual(told[6:], told[2:4])

    def test_kind_out_of_range(self):
        for kind in (-1, 4, -FAR, FAR):
            self.assertEqual(last(subject(28, THEME), counter(OTHER), line(kind)), [-1], kind)

    def test_no_subject(self):
        for kind in range(4):
            self.assertEqual(last(line(kind)), [-7], kind)

    def test_no_counter_line(self):
        told = asked(subject(28, THEME), line(0), line(1), line(2), line(3))
        self.assertEqual(told[1:], [[5] + THEME, [5] + ANSWERED, [-7], [-7]])

    def test_of_several_the_first(self):
        self.assertEqual(last(line(4)), [-1])
        self.assertEqual(last(line(-1)), [-1])


if __name__ == "__main__":
    unittest.main()
