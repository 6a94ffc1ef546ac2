import unittest

from calling import notes
from fugueanswers.piece import Piece


class PieceTest(unittest.TestCase):
    def piece_with_an_entry(self):
        piece = Piece()
        piece.take_subject(28, notes([28]))
        piece.take_entry(0, 16, -1, 2)
        return piece

    def test_at_first(self):
        piece = Piece()
        self.assertEqual(piece.tonic, 28)
        self.assertEqual([piece.subject, piece.counter, piece.entries], [None, None, []])
        self.assertEqual(list(piece.prices.on_beat), [0, 10, 0, 6, 0, 0, 10])
        self.assertEqual(list(piece.prices.off_beat), [0, 3, 0, 2, 0, 0, 3])
        self.assertEqual([piece.prices.parallels, piece.prices.beat], [8, 16])

    def test_subject_and_counter_take_all_entries_away(self):
        piece = self.piece_with_an_entry()
        piece.take_subject(30, notes([30]))
        self.assertEqual(piece.entries, [])
        piece = self.piece_with_an_entry()
        piece.take_counter(notes([30]))
        self.assertEqual(piece.entries, [])

    def test_what_is_refused_takes_no_entry_away(self):
        piece = self.piece_with_an_entry()
        for told in (piece.take_subject(70, notes([30])), piece.take_subject(30, [1]), piece.take_subject(30, []),
                     piece.take_counter([1]), piece.take_counter([])):
            self.assertLess(told[0], 0)
        self.assertEqual(piece.tell_entries(), [1, 0, 16, -1, 2])

    def test_other_calls_leave_the_entries(self):
        piece = self.piece_with_an_entry()
        piece.take_prices([1] * 16)
        piece.tell_answer()
        piece.tell_line(0)
        self.assertEqual(piece.tell_entries(), [1, 0, 16, -1, 2])


if __name__ == "__main__":
    unittest.main()
