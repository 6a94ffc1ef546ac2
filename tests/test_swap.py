import unittest

from calling import FAR, asked, counter, last, line, note, notes, prices, rest, subject, swap, swaps

THEME = subject(28, notes([28, 31]))
OTHER = counter(notes([35, 33]))


class SwapTest(unittest.TestCase):
    def test_tells_cost_and_where_the_counter_line_is_above(self):
        # 35 and 33 over 28 and 31: gaps of 7 and 2.
        self.assertEqual(last(THEME, OTHER, swap(1)), [0, 2, 0, 16])
        # 32 and 30: gaps of 4 and 1.
        self.assertEqual(last(THEME, OTHER, swap(4)), [10, 1, 0])
        # 28 and 26: the same note is not above.
        self.assertEqual(last(THEME, OTHER, swap(8)), [0, 0])

    def test_at_the_last_n(self):
        # 14 and 12: gaps of 14 and 19.
        self.assertEqual(last(THEME, OTHER, swap(22)), [0, 0])
        self.assertEqual(last(subject(28, notes([28])), counter(notes([50])), swap(22)), [10, 1, 0])

    def test_steps_may_come_to_be_below_0(self):
        # 0 comes to be -21, which is 90 steps below 69: 6 is left.
        self.assertEqual(last(subject(0, notes([69])), counter(notes([0])), swap(22)), [10, 0])
        # 1 comes to be -2, which is 3 steps below 1.
        self.assertEqual(last(subject(0, notes([1])), counter(notes([1])), swap(4)), [6, 0])

    def test_parallels_count_with_places_changed(self):
        lines = [subject(28, notes([28, 29])), counter(notes([33, 34]))]
        self.assertEqual(last(*(lines + [swap(1)])), [0, 2, 0, 16])
        self.assertEqual(last(*(lines + [swap(2)])), [8, 2, 0, 16])
        self.assertEqual(last(*(lines + [swap(6)])), [8, 0])

    def test_times_are_those_of_meetings_alone(self):
        theme = note(28, 16) + rest(16) + note(28, 16)
        other = rest(4) + note(35, 20) + note(36, 16) + note(28, 24)
        # Meetings at 4 and 32; at 40, 28 meets 28.
        self.assertEqual(last(subject(28, theme), counter(other), swap(1)), [10, 2, 4, 32])

    def test_by_the_prices_and_the_beat(self):
        numbers = [1, 2, 3, 4, 5, 6, 7, 11, 12, 13, 14, 15, 16, 17, 100, 3]
        # 34 and 32 over 28 and 31: gaps of 6 at 0 and 1 at 16, which 3 doesn't divide.
        self.assertEqual(last(prices(numbers), THEME, OTHER, swap(2)), [7 + 12, 2, 0, 16])

    def test_changes_nothing(self):
        told = asked(THEME, OTHER, swap(4), swap(4), line(0), line(2))
        self.assertEqual(told[2:], [[10, 1, 0], [10, 1, 0], [2] + notes([28, 31]), [2] + notes([35, 33])])

    def test_n_out_of_range(self):
        for n in (0, 23, -1, -FAR, FAR):
            self.assertEqual(last(THEME, OTHER, swap(n)), [-1], n)

    def test_no_counter_line(self):
        self.assertEqual(last(swap(1)), [-7])
        self.assertEqual(last(THEME, swap(22)), [-7])
        self.assertEqual(last(THEME, OTHER, THEME, swap(1)), [-7])

    def test_of_several_the_first(self):
        self.assertEqual(last(swap(0)), [-1])
        self.assertEqual(last(THEME, swap(23)), [-1])


class SwapsTest(unittest.TestCase):
    def test_tells_all_places(self):
        # 38 over 28: 10 steps apart, then 9, down to 11 below.
        costs = [6, 0, 10, 0, 10, 0, 0, 6, 0, 10, 0, 10, 0, 6, 0, 0, 10, 0, 10, 0, 6, 0]
        above = [1] * 10 + [0] * 12
        expected = [6]
        for place in range(22):
            expected.extend([costs[place], above[place]])
        self.assertEqual(last(subject(28, notes([28])), counter(notes([38])), swaps()), expected)

    def test_tells_parallels_and_each_meeting(self):
        told = last(subject(28, notes([28, 29])), counter(notes([33, 34])), swaps())
        # As they are, then n from 1 to 7: gaps of 5, 4, 3, 2, 1, 0 and 1 below.
        self.assertEqual(told[:15], [0, 0, 2, 8, 2, 12, 2, 0, 2, 20, 2, 8, 0, 20, 0])
        self.assertEqual(len(told), 45)

    def test_tells_what_swap_tells(self):
        lines = [subject(28, note(28, 12) + rest(3) + notes([31, 30, 32], 9)), counter(notes([40, 35, 30, 33], 10))]
        told = last(*(lines + [swaps()]))
        for n in range(1, 23):
            self.assertEqual(told[2 * n - 1:2 * n + 1], last(*(lines + [swap(n)]))[:2], n)
        self.assertEqual(told[0], last(*lines)[2])

    def test_changes_nothing(self):
        told = asked(THEME, OTHER, swaps(), swaps(), line(0), line(2))
        self.assertEqual(told[2], told[3])
        self.assertEqual(told[4:], [[2] + notes([28, 31]), [2] + notes([35, 33])])

    def test_no_counter_line(self):
        self.assertEqual(last(swaps()), [-7])
        self.assertEqual(last(THEME, swaps()), [-7])
        self.assertEqual(last(THEME, OTHER, THEME, swaps()), [-7])


if __name__ == "__main__":
    unittest.main()
