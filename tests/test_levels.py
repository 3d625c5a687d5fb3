"""Promises 2 and 3 of the levels that count and kth tell of: how many packets each has, and which, in order."""

import functools
import unittest

from fewestfolds.packets import count, kth, move, moves, show, way

import model

LARGEST = 4294967295

# How many packets levels 0 to 4 have, those ahead of the first that isn't made.
SIZES = {
    (1, 1): [1, 0, 0, 0, 0],
    (2, 1): [1, 4, 0, 0, 0],
    (3, 1): [1, 8, 12, 0, 0],
    (4, 1): [1, 12, 32, 24, 0],
    (5, 1): [1, 16, 68, 116],
    (6, 1): [1, 20, 108],
    (2, 2): [1, 8, 32, 0, 0],
    (3, 2): [1, 12, 76, 160],
}
# A sheet on its side has as many.
SIZES.update({(h, w): sizes for (w, h), sizes in list(SIZES.items())})

NOT_MADE = [(w, h, n) for (w, h), sizes in SIZES.items() for n in range(len(sizes), 5)]
MADE = [(w, h, n) for (w, h), sizes in SIZES.items() for n in range(len(sizes))]


def row_by_row(call):
    """The rows that call answers for 0, 1, ... up to the first refusal, and that refusal."""
    rows = []
    answer = call(0)
    while answer[0] == 0:
        rows.append(answer[2:])
        answer = call(len(rows))
    return rows, answer


@functools.cache
def told(w, h, n):
    """The rows of all packets of level n, as kth tells them, and the refusal behind the last."""
    return row_by_row(lambda k: kth(w, h, n, k))


class Count(unittest.TestCase):
    def test_every_level_that_is_made(self):
        self.assertEqual(sorted(SIZES), model.SHEETS)
        for w, h, n in MADE:
            self.assertEqual(count(w, h, n), [0, SIZES[w, h][n]], (w, h, n))

    def test_levels_that_have_no_packet(self):
        self.assertEqual(count(1, 1, 1), [0, 0])
        self.assertEqual(count(2, 1, 2), [0, 0])
        self.assertEqual(count(1, 3, 3), [0, 0])
        self.assertEqual(count(4, 1, 4), [0, 0])
        self.assertEqual(count(2, 2, 4), [0, 0])

    def test_levels_that_are_not_made(self):
        self.assertEqual(len(NOT_MADE), 8)
        for w, h, n in NOT_MADE:
            self.assertEqual(count(w, h, n), [-6], (w, h, n))

    def test_the_last_level_ahead_of_one_that_is_not_made(self):
        # Those before level 3 are 89 together, and with it 249; of a strip of six those before level 3 are 129.
        self.assertEqual(count(3, 2, 3), [0, 160])
        self.assertEqual(count(3, 2, 4), [-6])
        self.assertEqual(count(6, 1, 2), [0, 108])
        self.assertEqual(count(6, 1, 3), [-6])

    def test_as_many_as_all_rows_of_folds_come_to(self):
        for w, h, most in ((3, 1, 4), (2, 2, 3), (4, 1, 3), (1, 4, 3), (3, 2, 2), (1, 6, 2)):
            known = set()
            for n in range(most + 1):
                reached = {tuple(row) for _, row in model.fold_rows(w, h, n)}
                self.assertEqual(count(w, h, n), [0, len(reached - known)], (w, h, n))
                known |= reached


class Kth(unittest.TestCase):
    def check(self, w, h, n, k, row):
        self.assertEqual(kth(w, h, n, k), [0, 5 * w * h] + row, (w, h, n, k))

    def test_level_0_is_the_sheet_lying_flat(self):
        self.check(1, 1, 0, 0, [0, 0, 0, 0, 0])
        self.check(2, 1, 0, 0, [0, 0, 0, 0, 0, 1, 0, 0, 0, 0])
        self.check(1, 2, 0, 0, [0, 0, 0, 0, 0, 0, 1, 0, 0, 0])
        for w, h in model.SHEETS:
            self.check(w, h, 0, 0, model.flat(w, h))
            for k in (1, 2, LARGEST):
                self.assertEqual(kth(w, h, 0, k), [-2])

    def test_level_1_of_two_squares(self):
        self.check(2, 1, 1, 0, [0, 0, 1, 0, 0, 0, 0, 0, 0, 1])
        self.check(2, 1, 1, 1, [0, 0, 1, 0, 1, 0, 0, 0, 0, 0])
        self.check(2, 1, 1, 2, [0, 0, 0, 0, 1, 0, 0, 1, 0, 0])
        self.check(2, 1, 1, 3, [0, 0, 0, 0, 0, 0, 0, 1, 0, 1])
        self.check(1, 2, 1, 0, [0, 0, 0, 1, 0, 0, 0, 0, 0, 1])
        self.check(1, 2, 1, 3, [0, 0, 0, 0, 0, 0, 0, 0, 1, 1])

    def test_level_2_of_three_squares(self):
        # 0 under 1, then both under 2; or both over it.
        self.check(3, 1, 2, 0, [0, 0, 0, 0, 1, 0, 0, 1, 0, 0, 0, 0, 0, 0, 2])
        self.check(3, 1, 2, 1, [0, 0, 0, 0, 2, 0, 0, 1, 0, 1, 0, 0, 0, 0, 0])
        # 2 over 1, then both over 0.
        self.check(3, 1, 2, 11, [0, 0, 0, 0, 0, 0, 0, 1, 0, 2, 0, 0, 0, 0, 1])

    def test_level_2_of_two_by_two(self):
        # 0 and 1 under 2 and 3, then 0 and 2 under 1 and 3.
        self.check(2, 2, 2, 0, [0, 0, 1, 1, 1, 0, 0, 0, 1, 2, 0, 0, 1, 0, 0, 0, 0, 0, 0, 3])
        # 1 and 3 over 0 and 2, then 2 and 3 over 0 and 1.
        self.check(2, 2, 2, 31, [0, 0, 0, 0, 0, 0, 0, 1, 0, 1, 0, 0, 0, 1, 3, 0, 0, 1, 1, 2])

    def test_the_last_packet_of_a_level_and_the_one_behind_it(self):
        for w, h, n in MADE:
            size = SIZES[w, h][n]
            if size > 0:
                self.check(w, h, n, size - 1, model.levels(w, h, n)[n][-1][1])
            for k in (size, size + 1, 4294967294, LARGEST):
                self.assertEqual(kth(w, h, n, k), [-2], (w, h, n, k))

    def test_a_level_that_has_no_packet(self):
        for w, h, n in ((1, 1, 1), (1, 1, 4), (2, 1, 2), (1, 2, 3), (3, 1, 3), (4, 1, 4), (2, 2, 3)):
            for k in (0, 1, LARGEST):
                self.assertEqual(kth(w, h, n, k), [-2], (w, h, n, k))

    def test_levels_that_are_not_made(self):
        for w, h, n in NOT_MADE:
            for k in (0, 1, 107, 108, 159, 160, LARGEST):
                self.assertEqual(kth(w, h, n, k), [-6], (w, h, n, k))

    def test_every_packet_of_every_level_as_the_model_tells(self):
        for w, h in model.SHEETS:
            for n, level in enumerate(model.levels(w, h, 4)):
                self.assertEqual(told(w, h, n), ([row for folds, row in level], [-2]), (w, h, n))


class CallsHoldWithOneAnother(unittest.TestCase):
    def test_count_and_kth(self):
        for w, h, n in MADE:
            self.assertEqual(count(w, h, n), [0, len(told(w, h, n)[0])], (w, h, n))

    def test_each_packet_once_and_in_one_level_alone(self):
        for (w, h), sizes in SIZES.items():
            rows = [tuple(row) for n in range(len(sizes)) for row in told(w, h, n)[0]]
            self.assertEqual(len(rows), len(set(rows)), (w, h))

    def test_packets_are_at_home_and_right(self):
        for w, h, n in MADE:
            for row in told(w, h, n)[0]:
                self.assertEqual((min(row[0::5]), min(row[1::5])), (0, 0), row)
                self.assertEqual(moves(w, h, row)[0], 0, row)

    def ways(self, w, h, n, rows):
        """The folds that way tells to each of these, none of them told within fewer than n."""
        found = []
        for row in rows:
            answer = way(w, h, n, row)
            self.assertEqual(answer[:2], [0, 5 * n], (w, h, n, row))
            if n > 0:
                self.assertEqual(way(w, h, n - 1, row), [-2], (w, h, n, row))
            found.append(answer[2:])
        return found

    def test_way_tells_n_folds_to_packets_of_level_n_in_their_order(self):
        for w, h, n in MADE:
            rows = told(w, h, n)[0]
            found = self.ways(w, h, n, rows if w * h <= 4 else rows[::7] + rows[-1:])
            # The last may stand twice, as the last of each seventh.
            self.assertEqual(found, sorted(found), (w, h, n))
            self.assertGreaterEqual(len({tuple(folds) for folds in found}), len(found) - 1, (w, h, n))

    def test_moves_of_one_level_make_the_next(self):
        for w, h, n in MADE:
            if n == 0:
                continue
            known = [row for before in range(n) for row in told(w, h, before)[0]]
            made = []
            for row in told(w, h, n - 1)[0]:
                for answer in row_by_row(lambda k: move(w, h, k, row))[0]:
                    if answer[5:] not in known and answer[5:] not in made:
                        made.append(answer[5:])
            self.assertEqual(made, told(w, h, n)[0], (w, h, n))

    def test_level_1_is_the_moves_of_the_flat_sheet(self):
        for w, h in model.SHEETS:
            rows = [row[5:] for row in row_by_row(lambda k: move(w, h, k, model.flat(w, h)))[0]]
            self.assertEqual(told(w, h, 1)[0], rows, (w, h))


class Refusals(unittest.TestCase):
    def refused(self, w, h, n):
        self.assertEqual(count(w, h, n), [-1], (w, h, n))
        for k in (0, 1, LARGEST):
            self.assertEqual(kth(w, h, n, k), [-1], (w, h, n, k))

    def test_sides_out_of_1_to_6(self):
        for n in (0, 1, 4, 5, LARGEST):
            for wrong in (0, 7, 8, LARGEST):
                for side in (0, 1, 6, 7, LARGEST):
                    self.refused(wrong, side, n)
                    self.refused(side, wrong, n)

    def test_more_than_six_squares(self):
        for w in range(1, 7):
            for h in range(1, 7):
                if w * h > 6:
                    for n in (0, 1, 3, 4, 5):
                        self.refused(w, h, n)

    def test_more_than_four_folds(self):
        for w, h in model.SHEETS:
            for n in (5, 6, 4294967294, LARGEST):
                self.refused(w, h, n)

    def test_every_sheet_and_every_n_up_to_4_is_taken(self):
        for w, h in model.SHEETS:
            for n in range(5):
                self.assertNotEqual(count(w, h, n), [-1], (w, h, n))
                self.assertNotEqual(kth(w, h, n, 0), [-1], (w, h, n))


class CallsStandByThemselves(unittest.TestCase):
    CALLS = [(count, (4, 1, 3)), (count, (6, 1, 3)), (count, (2, 1, 2)), (count, (0, 1, 0)), (count, (1, 1, 5)),
             (kth, (4, 1, 3, 23)), (kth, (4, 1, 3, 24)), (kth, (6, 1, 4, 0)), (kth, (2, 2, 2, 0)), (kth, (2, 2, 9, 0)),
             (kth, (1, 1, 0, 0))]

    def answers(self, calls):
        return [call(*given) for call, given in calls]

    def test_a_call_answers_the_same_again(self):
        first = self.answers(self.CALLS)
        self.assertEqual(self.answers(self.CALLS), first)
        flat = model.flat(4, 1)
        others = [(moves, (4, 1, flat)), (move, (4, 1, 3, flat)), (way, (4, 1, 4, flat)), (show, (4, 1, 4, [0, 0, 1]))]
        answers = self.answers(others)
        self.assertEqual(self.answers(self.CALLS[::-1]), first[::-1])
        self.assertEqual(self.answers(others), answers)
        for at, call in enumerate(self.CALLS):
            for other in self.CALLS + others:
                self.answers([other])
                self.assertEqual(self.answers([call]), [first[at]], (call, other))

    def test_an_answer_that_is_changed_changes_no_later_one(self):
        for call, given in self.CALLS:
            answer = call(*given)
            kept = list(answer)
            answer.append(7)
            answer[0] = 8
            self.assertEqual(call(*given), kept)

    def test_answers_are_lists_of_whole_numbers(self):
        for answer in self.answers(self.CALLS):
            self.assertIs(type(answer), list)
            self.assertEqual({type(number) for number in answer}, {int})


if __name__ == "__main__":
    unittest.main()
