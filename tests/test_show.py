"""Promises 2 and 3 of show: the first of the fewest folds to a packet that looks so, or that there are none."""

import itertools
import unittest

from fewestfolds.packets import move, moves, show, way

import model

LARGEST = 9223372036854775807
LEAST = -9223372036854775808


class WrittenOut(unittest.TestCase):
    def check(self, w, h, row, folds):
        """The folds are told within as many as they are, and within more; fewer show no such face."""
        for n in range(5):
            expected = [-2] if 5 * n < len(folds) else [0, len(folds)] + folds
            self.assertEqual(show(w, h, n, row), expected, (w, h, n, row))

    def test_the_flat_sheet(self):
        self.check(1, 1, [0, 0, 0], [])
        self.check(2, 1, [0, 0, 0, 1, 0, 1], [])
        self.check(1, 2, [0, 0, 0, 0, 1, 1], [])
        self.check(3, 2, [0, 0, 0, 1, 0, 1, 2, 0, 2, 0, 1, 3, 1, 1, 4, 2, 1, 5], [])
        for w, h in model.SHEETS:
            self.check(w, h, [n for c in range(w * h) for n in (c % w, c // w, c)], [])

    def test_faces_after_one_fold(self):
        # 0 under 1 comes before 1 over 0.
        self.check(2, 1, [0, 0, 1], [1, 1, 0, 0, 0])
        self.check(2, 1, [0, 0, 0], [1, 1, 0, 1, 0])
        self.check(1, 2, [0, 0, 1], [0, 1, 0, 0, 0])
        self.check(1, 2, [0, 0, 0], [0, 1, 0, 1, 0])
        self.check(3, 1, [0, 0, 0, 1, 0, 2], [1, 1, 0, 1, 0])
        self.check(3, 1, [0, 0, 0, 1, 0, 1], [1, 2, 1, 0, 2])
        self.check(3, 1, [0, 0, 2, 1, 0, 1], [1, 1, 1, 1, 1])

    def test_faces_after_two_folds(self):
        # 0 under 1, then both over 2.
        self.check(4, 1, [0, 0, 0, 1, 0, 3], [1, 1, 0, 0, 0, 1, 1, 0, 1, 0])
        self.check(2, 2, [0, 0, 3], [0, 1, 0, 0, 0, 1, 1, 0, 0, 0])
        self.check(2, 2, [0, 0, 0], [0, 1, 0, 0, 0, 1, 1, 0, 1, 0])

    def test_the_face_itself_is_shown(self):
        for w, h, row in ((4, 1, [0, 0, 0, 1, 0, 3]), (2, 2, [0, 0, 2]), (3, 2, [0, 0, 0, 1, 0, 1, 2, 0, 2]),
                          (2, 3, [0, 0, 4, 0, 1, 2])):
            answer = show(w, h, 4, row)
            self.assertEqual(answer[0], 0, (w, h, row))
            self.assertEqual(model.face(model.replayed(w, h, answer[2:])), row)

    def test_the_first_packet_that_looks_so(self):
        alike = [told for told, row in model.levels(2, 2, 2)[2] if model.face(row) == [0, 0, 3]]
        self.assertEqual(len(alike), 8)
        self.assertEqual(min(alike), [0, 1, 0, 0, 0, 1, 1, 0, 0, 0])
        self.check(2, 2, [0, 0, 3], min(alike))

    def test_places_go_by_y_and_then_by_x(self):
        self.check(2, 2, [0, 0, 0, 1, 0, 1, 0, 1, 2, 1, 1, 3], [])
        for row in ([0, 0, 0, 0, 1, 2, 1, 0, 1, 1, 1, 3], [0, 1, 2, 1, 1, 3, 0, 0, 0, 1, 0, 1],
                    [1, 0, 1, 0, 0, 0, 1, 1, 3, 0, 1, 2]):
            for n in range(5):
                self.assertEqual(show(2, 2, n, row), [-2])


class NoneWithinN(unittest.TestCase):
    def none(self, w, h, row):
        for n in range(5):
            self.assertEqual(show(w, h, n, row), [-2], (w, h, n, row))

    def test_faces_that_no_packet_shows(self):
        self.none(2, 1, [0, 0, 1, 1, 0, 0])
        self.none(2, 1, [0, 0, 0, 1, 0, 0])
        self.none(1, 1, [1, 0, 0])
        self.none(1, 1, [0, 1, 0])
        self.none(1, 1, [LARGEST, LARGEST, 0])
        self.none(2, 1, [0, 0, 0, 0, 1, 1])
        self.none(3, 1, [0, 0, 2, 1, 0, 2])
        self.none(3, 1, [0, 0, 2, 1, 0, 1, 2, 0, 0])

    def test_places_twice_and_places_too_many(self):
        self.none(1, 1, [0, 0, 0, 0, 0, 0])
        self.none(2, 1, [0, 0, 0, 1, 0, 1, 1, 0, 1])
        self.none(2, 1, [0, 0, 0, 1, 0, 1, 2, 0, 1])
        self.none(4, 1, [0, 0, 0] * 13)

    def test_a_face_that_is_not_at_home(self):
        self.none(2, 1, [1, 0, 0, 2, 0, 1])
        self.none(2, 1, [0, 1, 0, 1, 1, 1])
        self.none(2, 1, [3, 0, 1])

    def test_an_empty_row_is_no_packets_face(self):
        for w, h in [sheet for sheet in model.SHEETS if sheet[0] * sheet[1] <= 4]:
            self.none(w, h, [])


class TooManyPackets(unittest.TestCase):
    def test_levels_that_are_not_made(self):
        for w, h, made in ((6, 1, 2), (1, 6, 2), (5, 1, 3), (1, 5, 3), (3, 2, 3), (2, 3, 3)):
            for row in ([], [9, 9, 0], [LARGEST, 0, 4]):
                for n in range(5):
                    self.assertEqual(show(w, h, n, row), [-2] if n <= made else [-6], (w, h, n, row))

    def test_a_face_of_a_level_that_is_not_made(self):
        # Three folds at the least bring six squares in a row onto one place.
        for n in range(5):
            self.assertEqual(show(6, 1, n, [0, 0, 3]), [-2] if n <= 2 else [-6])

    def test_a_face_of_a_level_that_is_still_made(self):
        row = [0, 0, 0, 1, 0, 2, 2, 0, 3, 3, 0, 5]
        self.assertEqual(show(6, 1, 1, row), [-2])
        for n in (2, 3, 4):
            self.assertEqual(show(6, 1, n, row), [0, 10, 1, 1, 0, 1, 0, 1, 4, 1, 1, 5])


class AgainstTheModel(unittest.TestCase):
    def expected(self, levels, n, row):
        for level in levels[:n + 1]:
            for told, made in level:
                if model.face(made) == row:
                    return [0, len(told)] + told
        return [-2] if len(levels) > n else [-6]

    def test_faces_of_every_level_within_every_n(self):
        for w, h in model.SHEETS:
            levels = model.levels(w, h, 4)
            rows = sorted({tuple(model.face(made)) for level in levels for _, made in level})
            for row in rows if w * h <= 4 else rows[::5]:
                for n in range(5):
                    told = self.expected(levels, n, list(row))
                    self.assertEqual(show(w, h, n, list(row)), told, (w, h, n, row))

    def test_every_row_of_up_to_three_places_close_by(self):
        for w, h in ((2, 1), (1, 2), (3, 1)):
            levels = model.levels(w, h, 4)
            places = [(x, y, c) for x in range(w) for y in range(h) for c in range(w * h)]
            for many in range(4):
                for seen in itertools.product(places, repeat=many):
                    row = [number for place in seen for number in place]
                    self.assertEqual(show(w, h, 2, row), self.expected(levels, 2, row), (w, h, row))

    def test_against_all_rows_of_folds(self):
        for w, h, most in ((3, 1, 3), (2, 2, 3), (4, 1, 3), (1, 4, 3), (3, 2, 2), (2, 3, 2)):
            least = {}
            for n in range(most + 1):
                for told, made in sorted(model.fold_rows(w, h, n)):
                    least.setdefault(tuple(model.face(made)), told)
            for row, told in least.items():
                self.assertEqual(show(w, h, most, list(row)), [0, len(told)] + told, (w, h, row))


class Refusals(unittest.TestCase):
    def refused(self, w, h, row):
        for n in (0, 1, 2, 3, 4, 5, 4294967295):
            self.assertEqual(show(w, h, n, row), [-1], (w, h, n, row))

    def test_sheets(self):
        for wrong in (0, 7, 4294967295):
            for side in (1, 6):
                self.refused(wrong, side, [0, 0, 0])
                self.refused(side, wrong, [0, 0, 0])
            self.refused(wrong, wrong, [])
        for w in range(1, 7):
            for h in range(1, 7):
                if w * h > 6:
                    self.refused(w, h, [0, 0, 0])
                    self.refused(w, h, [])

    def test_more_than_four_folds(self):
        for n in (5, 6, 4294967295):
            self.assertEqual(show(1, 1, n, [0, 0, 0]), [-1])
            self.assertEqual(show(2, 1, n, [0, 0, 1]), [-1])
            self.assertEqual(show(2, 1, n, []), [-1])
            self.assertEqual(show(6, 1, n, []), [-1])
            self.assertEqual(show(0, 1, n, [0, 0, 0]), [-1])
            self.assertEqual(show(1, 1, n, [0, 0, -1]), [-1])

    def test_not_three_numbers_for_each_place(self):
        for w, h in model.SHEETS:
            face = [n for c in range(w * h) for n in (c % w, c // w, c)]
            for row in (face[:-1], face[:-2], face + [0], face + [0, 0], [0], [0, 0], [0] * 40, [LARGEST] * 40):
                self.refused(w, h, row)

    def test_places_below_0(self):
        for wrong in (-1, -100, LEAST):
            self.refused(2, 1, [wrong, 0, 0, 1, 0, 1])
            self.refused(2, 1, [0, wrong, 0, 1, 0, 1])
            self.refused(2, 1, [0, 0, 0, wrong, 0, 1])
            self.refused(2, 1, [0, 0, 0, 1, wrong, 1])

    def test_squares_that_the_sheet_does_not_have(self):
        for w, h in model.SHEETS:
            for wrong in (-1, w * h, w * h + 1, LARGEST, LEAST):
                self.refused(w, h, [0, 0, wrong])
                self.refused(w, h, [0, 0, 0, 1, 0, wrong])
            self.assertNotEqual(show(w, h, 0, [0, 0, w * h - 1]), [-1])

    def test_a_row_that_is_not_in_form_comes_before_too_many_packets(self):
        self.assertEqual(show(6, 1, 4, [0, 0, 5, 1]), [-1])
        self.assertEqual(show(6, 1, 4, [0, 0, 6]), [-1])
        self.assertEqual(show(6, 1, 4, [0, 0, 5]), [-6])


class CallsStandByThemselves(unittest.TestCase):
    CALLS = [(4, 1, 4, [0, 0, 0, 1, 0, 3]), (4, 1, 1, [0, 0, 0, 1, 0, 3]), (2, 2, 2, [0, 0, 3]), (2, 2, 9, [0, 0, 3]),
             (6, 1, 3, []), (2, 1, 4, [0, 0, 2]), (2, 1, 4, [0, 0]), (0, 1, 0, []), (1, 1, 0, [0, 0, 0])]

    def test_the_list_handed_in_stays_as_it_was(self):
        for w, h, n, row in self.CALLS:
            handed = list(row)
            show(w, h, n, handed)
            self.assertEqual(handed, row)

    def test_a_call_answers_the_same_again(self):
        first = [show(*call) for call in self.CALLS]
        again = [show(*call) for call in self.CALLS]
        flat = model.flat(4, 1)
        way(4, 1, 4, flat)
        moves(4, 1, flat)
        move(4, 1, 0, flat)
        second = [show(*call) for call in reversed(self.CALLS)]
        self.assertEqual(first, again)
        self.assertEqual(first, second[::-1])

    def test_an_answer_that_is_changed_changes_no_later_one(self):
        for call in self.CALLS:
            answer = show(*call)
            kept = list(answer)
            answer.append(7)
            answer[0] = 8
            self.assertEqual(show(*call), kept)

    def test_answers_are_lists_of_whole_numbers(self):
        for call in self.CALLS:
            answer = show(*call)
            self.assertIs(type(answer), list)
            self.assertEqual({type(number) for number in answer}, {int})


if __name__ == "__main__":
    unittest.main()
