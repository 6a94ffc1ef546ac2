import unittest

from calling import FAR, asked, counter, last, line, note, notes, prices, rest, subject, swap

NUMBERS = [1, 2, 3, 4, 5, 6, 7, 11, 12, 13, 14, 15, 16, 17, 20, 4]


def with_number(place, number):
    numbers = list(NUMBERS)
    numbers[place] = number
    return numbers


def gap_cost(numbers, time, gap):
    """What one meeting of that gap at that time costs."""
    calls = [prices(numbers), subject(28, rest(time) + note(28, 1)), counter(rest(time) + note(28 + gap, 1))]
    return last(*calls)[2]


class PricesTest(unittest.TestCase):
    def test_answers_0(self):
        self.assertEqual(last(prices(NUMBERS)), [0])

    def test_by_gap_on_the_beat_and_off_it(self):
        for gap in range(7):
            self.assertEqual(gap_cost(NUMBERS, 8, gap), 1 + gap, gap)
            self.assertEqual(gap_cost(NUMBERS, 9, gap), 11 + gap, gap)

    def test_of_parallels(self):
        told = last(prices(NUMBERS), subject(28, notes([28, 29])), counter(notes([32, 33])))
        self.assertEqual(told, [2, 32, 5 + 5 + 20])

    def test_0_and_100_everywhere(self):
        for place in range(15):
            self.assertEqual(last(prices(with_number(place, 0))), [0], place)
            self.assertEqual(last(prices(with_number(place, 100))), [0], place)

    def test_prices_at_their_edges_are_taken(self):
        self.assertEqual(gap_cost(with_number(1, 100), 4, 1), 100)
        self.assertEqual(gap_cost(with_number(1, 0), 4, 1), 0)
        self.assertEqual(gap_cost(with_number(8, 100), 5, 1), 100)
        self.assertEqual(gap_cost(with_number(8, 0), 5, 1), 0)

    def test_a_beat_of_1_has_all_times_on_it(self):
        for time in (1, 2, 7, 511):
            self.assertEqual(gap_cost(with_number(15, 1), time, 1), 2, time)

    def test_a_beat_of_512(self):
        self.assertEqual(gap_cost(with_number(15, 512), 512, 1), 2)
        for time in (1, 16, 256, 511):
            self.assertEqual(gap_cost(with_number(15, 512), time, 1), 12, time)

    def test_time_0_is_on_every_beat(self):
        for beat in (1, 5, 512):
            told = last(prices(with_number(15, beat)), subject(28, note(28, 3)), counter(note(29, 3)))
            self.assertEqual(told, [1, 3, 2], beat)

    def test_hold_for_the_lines_that_are_there(self):
        told = asked(subject(28, notes([28])), counter(notes([29])), swap(1), prices(NUMBERS), swap(1), line(2))
        self.assertEqual(told[1:], [[1, 16, 10], [10, 1, 0], [0], [2, 1, 0], [1] + notes([29])])

    def test_stay_for_another_subject(self):
        told = last(prices(NUMBERS), subject(28, notes([28])), subject(28, notes([30])), counter(notes([31])))
        self.assertEqual(told, [1, 16, 2])


class PricesRefusalTest(unittest.TestCase):
    def test_a_price_out_of_range(self):
        for place in range(15):
            for number in (-1, 101, -FAR, FAR):
                self.assertEqual(last(prices(with_number(place, number))), [-1], (place, number))

    def test_the_beat_out_of_range(self):
        for beat in (0, 513, -1, -16, FAR):
            self.assertEqual(last(prices(with_number(15, beat))), [-1], beat)

    def test_not_as_many_as_told(self):
        self.assertEqual(last(prices([])), [-1])
        self.assertEqual(last(prices(NUMBERS[:15])), [-1])
        self.assertEqual(last(prices(NUMBERS + [1])), [-1])

    def test_nothing_is_changed(self):
        lines = [subject(28, notes([28, 29])), counter(notes([35, 36]))]
        for refused in (with_number(14, 101), with_number(15, 0), with_number(0, -1)):
            self.assertEqual(last(prices(refused), *lines), [2, 32, 8], refused)
            self.assertEqual(last(prices(NUMBERS), prices(refused), *lines), [2, 32, 22], refused)


if __name__ == "__main__":
    unittest.main()
