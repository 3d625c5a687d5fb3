"""Promises 2 and 3 of piles: how many packets of a level lie all on one place."""

import unittest

from fewestfolds.packets import count, kth, piles

import model

LARGEST = 4294967295

# How many packets of levels 0 to 4 lie all on one place, those ahead of the first level that isn't made.
NUMBERS = {
    (1, 1): [1, 0, 0, 0, 0],
    (2, 1): [0, 4, 0, 0, 0],
    (3, 1): [0, 0, 12, 0, 0],
    (4, 1): [0, 0, 8, 24, 0],
    (5, 1): [0, 0, 0, 60],
    (6, 1): [0, 0, 0],
    (2, 2): [0, 0, 32, 0, 0],
    (3, 2): [0, 0, 0, 160],
}
# A sheet on its side has as many.
NUMBERS.update({(h, w): numbers for (w, h), numbers in list(NUMBERS.items())})


class WrittenOut(unittest.TestCase):
    def test_every_level_that_is_made(self):
        self.assertEqual(sorted(NUMBERS), model.SHEETS)
        for (w, h), numbers in NUMBERS.items():
            for n, number in enumerate(numbers):
                self.assertEqual(piles(w, h, n), [0, number], (w, h, n))

    def test_one_square_lies_on_one_place_before_any_fold(self):
        self.assertEqual(piles(1, 1, 0), [0, 1])

    def test_levels_of_which_none_lies_on_one_place(self):
        for w, h, n, packets in ((2, 1, 0, 1), (3, 1, 1, 8), (2, 2, 1, 8), (6, 1, 2, 108), (3, 2, 2, 76)):
            self.assertEqual(count(w, h, n), [0, packets])
            self.assertEqual(piles(w, h, n), [0, 0])

    def test_levels_of_which_some_lie_on_one_place(self):
        self.assertEqual((count(4, 1, 2), piles(4, 1, 2)), ([0, 32], [0, 8]))
        self.assertEqual((count(1, 4, 2), piles(1, 4, 2)), ([0, 32], [0, 8]))
        self.assertEqual((count(5, 1, 3), piles(5, 1, 3)), ([0, 116], [0, 60]))

    def test_levels_of_which_all_lie_on_one_place(self):
        for w, h, n, packets in ((2, 1, 1, 4), (1, 3, 2, 12), (4, 1, 3, 24), (2, 2, 2, 32), (2, 3, 3, 160)):
            self.assertEqual((count(w, h, n), piles(w, h, n)), ([0, packets], [0, packets]))

    def test_levels_that_have_no_packet(self):
        for w, h, n in ((1, 1, 1), (1, 1, 4), (2, 1, 2), (1, 2, 4), (3, 1, 3), (4, 1, 4), (2, 2, 3), (2, 2, 4)):
            self.assertEqual((count(w, h, n), piles(w, h, n)), ([0, 0], [0, 0]))

    def test_levels_that_are_not_made(self):
        for (w, h), numbers in NUMBERS.items():
            for n in range(len(numbers), 5):
                self.assertEqual(piles(w, h, n), [-6], (w, h, n))
        self.assertEqual([piles(6, 1, n) for n in (2, 3, 4)], [[0, 0], [-6], [-6]])
        self.assertEqual([piles(1, 6, n) for n in (2, 3, 4)], [[0, 0], [-6], [-6]])
        self.assertEqual([piles(2, 3, n) for n in (3, 4)], [[0, 160], [-6]])
        self.assertEqual([piles(1, 5, n) for n in (3, 4)], [[0, 60], [-6]])


class Compared(unittest.TestCase):
    def test_with_the_packets_that_kth_tells(self):
        for (w, h), numbers in NUMBERS.items():
            for n in range(len(numbers)):
                rows = [kth(w, h, n, k)[2:] for k in range(count(w, h, n)[1])]
                on_one_place = [row for row in rows if len({square[:2] for square in model.squares(row)}) == 1]
                self.assertEqual(piles(w, h, n), [0, len(on_one_place)], (w, h, n))

    def test_with_the_model(self):
        for w, h in model.SHEETS:
            for n, level in enumerate(model.levels(w, h, 4)):
                on_one_place = [row for folds, row in level if len(model.piles(row)) == 1]
                self.assertEqual(piles(w, h, n), [0, len(on_one_place)], (w, h, n))

    def test_all_right_piles_of_small_sheets_are_come_to(self):
        # A side of one square is never turned, so of a strip's right piles half are come to, of one square's a quarter.
        for w, h, part in ((1, 1, 4), (2, 1, 2), (1, 2, 2), (3, 1, 2), (4, 1, 2), (1, 4, 2), (2, 2, 1)):
            right = [row for row in model.right_packets(w, h) if len(model.piles(row)) == 1]
            self.assertEqual(part * sum(piles(w, h, n)[1] for n in range(5)), len(right), (w, h))


class Refusals(unittest.TestCase):
    def refused(self, w, h, n):
        self.assertEqual(piles(w, h, n), [-1], (w, h, n))

    def test_sides_out_of_1_to_6(self):
        for n in (0, 1, 4, 5, LARGEST):
            for wrong in (0, 7, 8, LARGEST):
                for side in (0, 1, 6, 7, LARGEST):
                    self.refused(wrong, side, n)
                    self.refused(side, wrong, n)

    def test_more_than_six_squares(self):
        for w in range(1, 7):
            for h in range(1, 7):
                if w * h > 6:
                    for n in (0, 1, 3, 4, 5):
                        self.refused(w, h, n)

    def test_more_than_four_folds(self):
        for w, h in model.SHEETS:
            for n in (5, 6, 4294967294, LARGEST):
                self.refused(w, h, n)

    def test_every_sheet_and_every_n_up_to_4_is_taken(self):
        for w, h in model.SHEETS:
            for n in range(5):
                self.assertNotEqual(piles(w, h, n), [-1], (w, h, n))


if __name__ == "__main__":
    unittest.main()
