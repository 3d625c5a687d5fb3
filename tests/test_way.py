"""Promises 2 and 3 of way: the first of the fewest folds to a packet, or that there are none, or too many packets."""

import unittest

from fewestfolds.packets import levels_made, move, moves, row_of, show, way

import model

LARGEST = 9223372036854775807
LEAST = -9223372036854775808


def pile(*layers):
    """The row of a strip whose squares lie all at 0, 0 in these layers."""
    return [n for c, layer in enumerate(layers) for n in (0, 0, c % 2, 0, layer)]


# Of a strip of four: squares 1 and 0 over squares 2 and 3; then 0 and 3 over 1 and 2.
HALVED = [1, 0, 1, 0, 1, 0, 0, 1, 0, 1, 0, 0, 0, 0, 0, 1, 0, 0, 0, 0]
QUARTERED = pile(2, 1, 0, 3)

# Of a strip of four: 0 over 1 and 3 over 2.
GATE = [0, 0, 1, 0, 1, 0, 0, 0, 0, 0, 1, 0, 0, 0, 0, 1, 0, 1, 0, 1]

# Of a strip of six: 0 over 1 and 5 over 4, which two folds make.
LONG_GATE = [0, 0, 1, 0, 1, 0, 0, 0, 0, 0, 1, 0, 0, 0, 0, 2, 0, 0, 0, 0, 3, 0, 0, 0, 0, 3, 0, 1, 0, 1]


class WrittenOut(unittest.TestCase):
    def check(self, w, h, n, packet, folds):
        self.assertEqual(way(w, h, n, packet), [0, len(folds)] + folds)

    def test_the_flat_sheet_takes_no_fold(self):
        for w, h in model.SHEETS:
            for n in range(5):
                self.check(w, h, n, model.flat(w, h), [])

    def test_one_fold(self):
        for n in range(1, 5):
            self.check(2, 1, n, [0, 0, 1, 0, 0, 0, 0, 0, 0, 1], [1, 1, 0, 0, 0])
            self.check(2, 1, n, [0, 0, 0, 0, 0, 0, 0, 1, 0, 1], [1, 1, 1, 1, 1])
            self.check(1, 2, n, [0, 0, 0, 1, 0, 0, 0, 0, 0, 1], [0, 1, 0, 0, 0])
            self.check(1, 2, n, [0, 0, 0, 0, 0, 0, 0, 0, 1, 1], [0, 1, 1, 1, 1])
            self.check(3, 1, n, [0, 0, 0, 0, 0, 1, 0, 0, 0, 0, 1, 0, 1, 0, 1], [1, 2, 1, 1, 2])
            self.check(4, 1, n, HALVED, [1, 2, 0, 1, 0])

    def test_two_folds(self):
        for n in range(2, 5):
            self.check(4, 1, n, QUARTERED, [1, 2, 0, 1, 0, 1, 1, 1, 1, 3])

    def test_two_folds_level_and_upright(self):
        row = [0, 0, 1, 1, 1, 0, 0, 0, 1, 2, 0, 0, 1, 0, 0, 0, 0, 0, 0, 3]
        for n in range(2, 5):
            self.check(2, 2, n, row, [0, 1, 0, 0, 0, 1, 1, 0, 0, 0])

    def test_three_folds(self):
        for n in (3, 4):
            self.check(4, 1, n, pile(0, 1, 2, 3), [1, 1, 0, 1, 0, 1, 1, 0, 0, 0, 1, 1, 1, 1, 3])

    def test_the_first_of_several_rows_of_one_length(self):
        told = [1, 1, 0, 1, 0, 1, 2, 1, 1, 3]
        other = [1, 3, 1, 1, 3, 1, 1, 0, 1, 0]
        self.assertEqual(model.replayed(4, 1, other), GATE)
        self.assertEqual(model.replayed(4, 1, told), GATE)
        self.check(4, 1, 2, GATE, told)
        self.check(4, 1, 4, GATE, told)

    def test_fewer_folds_come_before_a_row_that_is_lesser(self):
        # Three folds, the first of them at a lower line, come to the same pile.
        three = [told for told, row in model.fold_rows(4, 1, 3) if row == QUARTERED]
        self.assertLess(min(three), [1, 2, 0, 1, 0, 1, 1, 1, 1, 3])
        self.check(4, 1, 3, QUARTERED, [1, 2, 0, 1, 0, 1, 1, 1, 1, 3])

    def test_a_packet_that_is_not_at_home(self):
        for x, y in ((1, 0), (0, 1), (-3, 7), (-100, 100), (99, -100)):
            self.check(4, 1, 1, model.shifted(HALVED, x, y), [1, 2, 0, 1, 0])
            self.check(4, 1, 4, model.shifted(GATE, x, y), [1, 1, 0, 1, 0, 1, 2, 1, 1, 3])
        for x, y in ((1, 0), (0, 1), (-100, 99), (99, -100)):
            self.check(2, 2, 0, model.flat(2, 2, x, y), [])

    def test_one_square(self):
        for n in range(5):
            self.check(1, 1, n, [-100, 100, 0, 0, 0], [])
            for turned in ([1, 0], [0, 1], [1, 1]):
                self.assertEqual(way(1, 1, n, [0, 0, *turned, 0]), [-2])


class NoneWithinN(unittest.TestCase):
    def test_one_fold_too_few(self):
        self.assertEqual(way(4, 1, 0, HALVED), [-2])
        for n in (0, 1):
            self.assertEqual(way(4, 1, n, QUARTERED), [-2])
        for n in (0, 1, 2):
            self.assertEqual(way(4, 1, n, pile(0, 1, 2, 3)), [-2])

    def test_a_sheet_that_lies_turned(self):
        for n in range(5):
            self.assertEqual(way(2, 1, n, [1, 0, 1, 0, 0, 0, 0, 1, 0, 0]), [-2])
            self.assertEqual(way(2, 2, n, [0, 1, 0, 1, 0, 1, 1, 0, 1, 0, 0, 0, 0, 1, 0, 1, 0, 0, 1, 0]), [-2])

    def test_a_fold_of_a_turned_sheet(self):
        for n in range(5):
            self.assertEqual(way(2, 1, n, [0, 0, 1, 1, 0, 0, 0, 0, 1, 1]), [-2])


class TooManyPackets(unittest.TestCase):
    def test_a_level_that_is_not_made(self):
        # A strip of six has 1, 20 and 108 packets in levels 0 to 2.
        row = pile(0, 1, 2, 3, 4, 5)
        for n in (0, 1, 2):
            self.assertEqual(way(6, 1, n, row), [-2])
        for n in (3, 4):
            self.assertEqual(way(6, 1, n, row), [-6])

    def test_the_last_level_is_not_made(self):
        # A strip of five has 1, 16, 68 and 116 packets in levels 0 to 3, and takes four folds to a zigzag.
        row = pile(0, 1, 2, 3, 4)
        self.assertEqual(way(5, 1, 3, row), [-2])
        self.assertEqual(way(5, 1, 4, row), [-6])

    def test_a_packet_of_a_level_that_is_still_made(self):
        told = [1, 1, 0, 1, 0, 1, 4, 1, 1, 5]
        for n in (2, 3, 4):
            self.assertEqual(way(6, 1, n, LONG_GATE), [0, 10] + told)
        self.assertEqual(way(6, 1, 1, LONG_GATE), [-2])

    def test_a_packet_of_the_level_that_makes_too_many(self):
        for w, h, n in ((5, 1, 3), (1, 5, 3), (3, 2, 3), (2, 3, 3), (6, 1, 2), (1, 6, 2)):
            told, row = model.levels(w, h, n)[n][-1]
            self.assertEqual(way(w, h, 4, row), [0, 5 * n] + told)

    def test_a_packet_that_no_folds_come_to(self):
        row = [n for c in range(6) for n in (5 - c, 0, 1, 0, 0)]
        self.assertEqual(way(6, 1, 2, row), [-2])
        self.assertEqual(way(6, 1, 3, row), [-6])


class AgainstTheModel(unittest.TestCase):
    def expected(self, levels, n, row):
        for level in levels[:n + 1]:
            for told, made in level:
                if made == row:
                    return [0, len(told)] + told
        return [-2] if len(levels) > n else [-6]

    def test_every_right_packet_of_up_to_four_squares_within_every_n(self):
        for w, h in [sheet for sheet in model.SHEETS if sheet[0] * sheet[1] <= 4]:
            levels = model.levels(w, h, 4)
            for row in model.right_packets(w, h):
                for n in range(5):
                    self.assertEqual(way(w, h, n, row), self.expected(levels, n, row), (w, h, n, row))

    def test_right_packets_of_five_and_six_squares(self):
        for w, h in [sheet for sheet in model.SHEETS if sheet[0] * sheet[1] >= 5]:
            levels = model.levels(w, h, 4)
            for at, row in enumerate(model.right_packets(w, h)[::9]):
                n = at % 5
                self.assertEqual(way(w, h, n, row), self.expected(levels, n, row), (w, h, n, row))

    def test_every_packet_of_every_level(self):
        for w, h in ((5, 1), (2, 3), (1, 6)):
            for n, level in enumerate(model.levels(w, h, 4)):
                for told, row in level:
                    self.assertEqual(way(w, h, n, row), [0, 5 * n] + told, (w, h, n, row))

    def test_the_levels_themselves(self):
        for w, h in model.SHEETS:
            for n in range(5):
                made = [[(level[squares], row_of(squares)) for squares in level] for level in levels_made(w, h, n)]
                self.assertEqual(made, model.levels(w, h, n), (w, h, n))

    def test_against_all_rows_of_folds(self):
        for w, h, most in ((3, 1, 3), (2, 2, 3), (4, 1, 3), (1, 4, 3), (3, 2, 2), (2, 3, 2)):
            least = {}
            for n in range(most + 1):
                for told, row in sorted(model.fold_rows(w, h, n)):
                    least.setdefault(tuple(row), told)
            for row, told in least.items():
                self.assertEqual(way(w, h, most, list(row)), [0, len(told)] + told, (w, h, row))


class Refusals(unittest.TestCase):
    def refused(self, w, h, packet, answer):
        for n in range(5):
            self.assertEqual(way(w, h, n, packet), answer, (w, h, n, packet))
        for n in (5, 6, 4294967295):
            self.assertEqual(way(w, h, n, packet), [-1], (w, h, n, packet))

    def test_sheets(self):
        for wrong in (0, 7, 4294967295):
            for side in (1, 6):
                self.refused(wrong, side, model.flat(1, 1), [-1])
                self.refused(side, wrong, model.flat(1, 1), [-1])
        self.refused(7, 1, model.flat(7, 1), [-1])
        self.refused(1, 7, model.flat(1, 7), [-1])
        for w in range(1, 7):
            for h in range(1, 7):
                if w * h > 6:
                    self.refused(w, h, model.flat(w, h)[:40], [-1])

    def test_more_than_four_folds(self):
        for n in (5, 6, 4294967295):
            self.assertEqual(way(2, 1, n, model.flat(2, 1)), [-1])
            self.assertEqual(way(0, 1, n, []), [-1])
            self.assertEqual(way(1, 1, n, [0, 0, 0, 2, 0]), [-1])
            self.assertEqual(way(1, 1, n, [0, 0, 0, 0, 1]), [-1])
            self.assertEqual(way(6, 1, n, pile(0, 1, 2, 3, 4, 5)), [-1])
            self.assertEqual(way(2, 1, n, [1, 0, 1, 0, 0, 0, 0, 1, 0, 0]), [-1])

    def test_rows_that_are_not_in_form(self):
        for w, h in model.SHEETS:
            row = model.flat(w, h)
            for wrong in (row[:-1], row[:-5], row + [0], row + [0] * 5, [], [0] * 40, [LARGEST] * 40):
                self.refused(w, h, wrong, [-1])
        for at, wrong in ((0, -101), (0, 101), (1, -101), (1, 101), (2, -1), (2, 2), (3, -1), (3, 2), (4, -1)):
            for number in (wrong, LARGEST if wrong > 0 else LEAST):
                row = [0, 0, 0, 0, 0]
                row[at] = number
                self.refused(1, 1, row, [-1])

    def test_faults_and_their_squares(self):
        self.refused(2, 1, [0, 0, 0, 0, 0, 2, 0, 0, 0, 0], [-5, 1, 0])
        self.refused(3, 1, model.flat(2, 1) + [3, 0, 0, 0, 0], [-5, 1, 1])
        self.refused(2, 2, model.flat(2, 2)[:15] + [1, 5, 0, 0, 0], [-5, 1, 1])
        self.refused(1, 1, [0, 0, 0, 0, LARGEST], [-5, 2, 0])
        self.refused(4, 1, GATE[:-1] + [2], [-5, 2, 2])
        self.refused(4, 1, pile(0, 2, 1, 3), [-5, 3, 0])
        self.refused(5, 1, pile(0, 1, 3, 2, 4), [-5, 3, 1])

    def test_a_row_that_is_not_in_form_comes_before_a_fault(self):
        for at, wrong in ((0, 101), (1, -101), (2, 2), (3, -1), (4, -1)):
            row = [50, 50, 0, 0, 9] * 6
            self.refused(3, 2, row, [-5, 1, 0])
            row[25 + at] = wrong
            self.refused(3, 2, row, [-1])

    def test_a_fault_comes_before_too_many_packets(self):
        self.refused(6, 1, pile(0, 2, 1, 3, 4, 5), [-5, 3, 0])


class CallsStandByThemselves(unittest.TestCase):
    CALLS = [(4, 1, 4, GATE), (4, 1, 1, GATE), (4, 1, 2, model.shifted(QUARTERED, -7, 9)), (4, 1, 9, GATE),
             (6, 1, 3, pile(0, 1, 2, 3, 4, 5)), (4, 1, 4, GATE[:-1]), (4, 1, 4, pile(0, 2, 1, 3)), (0, 1, 0, [])]

    def test_the_list_handed_in_stays_as_it_was(self):
        for w, h, n, packet in self.CALLS:
            row = list(packet)
            way(w, h, n, row)
            self.assertEqual(row, packet)

    def test_a_call_answers_the_same_again(self):
        first = [way(*call) for call in self.CALLS]
        again = [way(*call) for call in self.CALLS]
        show(4, 1, 2, [0, 0, 0])
        moves(4, 1, GATE)
        move(4, 1, 0, GATE)
        second = [way(*call) for call in reversed(self.CALLS)]
        self.assertEqual(first, again)
        self.assertEqual(first, second[::-1])

    def test_an_answer_that_is_changed_changes_no_later_one(self):
        for call in self.CALLS:
            answer = way(*call)
            kept = list(answer)
            answer.append(7)
            answer[0] = 8
            self.assertEqual(way(*call), kept)

    def test_answers_are_lists_of_whole_numbers(self):
        for call in self.CALLS:
            answer = way(*call)
            self.assertIs(type(answer), list)
            self.assertEqual({type(number) for number in answer}, {int})


if __name__ == "__main__":
    unittest.main()
