"""Promise 1: moves are all that folds come to, each once, by its first fold."""

import unittest

from fewestfolds.packets import move, moves

import model

# Square 0 of a strip of three lies folded over square 1.
THREE = [0, 0, 1, 0, 1, 0, 0, 0, 0, 0, 1, 0, 0, 0, 0]

# A strip of four folded in half: squares 1 and 0 over squares 2 and 3.
HALVED = [1, 0, 1, 0, 1, 0, 0, 1, 0, 1, 0, 0, 0, 0, 0, 1, 0, 0, 0, 0]
HALVED_MOVES = [
    [1, 1, 0, 0, 1, 0, 0, 1, 0, 3, 0, 0, 0, 0, 0, 0, 0, 1, 0, 1, 0, 0, 0, 0, 2],
    [1, 1, 0, 1, 1, 0, 0, 1, 0, 1, 0, 0, 0, 0, 2, 0, 0, 1, 0, 3, 0, 0, 0, 0, 0],
    [1, 1, 1, 0, 0, 0, 0, 0, 0, 0, 0, 0, 1, 0, 3, 0, 0, 0, 0, 2, 0, 0, 1, 0, 1],
    [1, 1, 1, 0, 3, 1, 0, 1, 0, 0, 0, 0, 1, 0, 2, 0, 0, 0, 0, 1, 0, 0, 1, 0, 0],
    [1, 1, 1, 1, 0, 0, 0, 0, 0, 2, 0, 0, 1, 0, 1, 0, 0, 0, 0, 0, 1, 0, 0, 0, 0],
    [1, 1, 1, 1, 3, 0, 0, 0, 0, 2, 0, 0, 1, 0, 1, 0, 0, 0, 0, 0, 0, 0, 1, 0, 3],
]


def all_moves(w, h, packet):
    """The rows of move at each k from 0 on, up to the first that is refused, and that refusal."""
    rows, k = [], 0
    answer = move(w, h, k, packet)
    while answer[0] == 0:
        rows.append(answer)
        k += 1
        answer = move(w, h, k, packet)
    return rows, answer


class WrittenOut(unittest.TestCase):
    def check(self, w, h, packet, expected):
        self.assertEqual(moves(w, h, packet), [0, len(expected)])
        answers = [[0, len(row)] + row for row in expected]
        self.assertEqual(all_moves(w, h, packet), (answers, [-2]))

    def test_two_squares_side_by_side(self):
        self.check(2, 1, model.flat(2, 1), [
            [1, 1, 0, 0, 0, 0, 0, 1, 0, 0, 0, 0, 0, 0, 1],
            [1, 1, 0, 1, 0, 0, 0, 1, 0, 1, 0, 0, 0, 0, 0],
            [1, 1, 1, 0, 1, 0, 0, 0, 0, 1, 0, 0, 1, 0, 0],
            [1, 1, 1, 1, 1, 0, 0, 0, 0, 0, 0, 0, 1, 0, 1],
        ])

    def test_two_squares_one_above_the_other(self):
        self.check(1, 2, model.flat(1, 2), [
            [0, 1, 0, 0, 0, 0, 0, 0, 1, 0, 0, 0, 0, 0, 1],
            [0, 1, 0, 1, 0, 0, 0, 0, 1, 1, 0, 0, 0, 0, 0],
            [0, 1, 1, 0, 1, 0, 0, 0, 0, 1, 0, 0, 0, 1, 0],
            [0, 1, 1, 1, 1, 0, 0, 0, 0, 0, 0, 0, 0, 1, 1],
        ])

    def test_two_by_two_has_level_folds_before_upright_ones(self):
        self.check(2, 2, model.flat(2, 2), [
            [0, 1, 0, 0, 0, 0, 0, 0, 1, 0, 1, 0, 0, 1, 0, 0, 0, 0, 0, 1, 1, 0, 0, 0, 1],
            [0, 1, 0, 1, 0, 0, 0, 0, 1, 1, 1, 0, 0, 1, 1, 0, 0, 0, 0, 0, 1, 0, 0, 0, 0],
            [0, 1, 1, 0, 2, 0, 0, 0, 0, 1, 1, 0, 0, 0, 1, 0, 0, 0, 1, 0, 1, 0, 0, 1, 0],
            [0, 1, 1, 1, 2, 0, 0, 0, 0, 0, 1, 0, 0, 0, 0, 0, 0, 0, 1, 1, 1, 0, 0, 1, 1],
            [1, 1, 0, 0, 0, 0, 0, 1, 0, 0, 0, 0, 0, 0, 1, 0, 1, 1, 0, 0, 0, 1, 0, 0, 1],
            [1, 1, 0, 1, 0, 0, 0, 1, 0, 1, 0, 0, 0, 0, 0, 0, 1, 1, 0, 1, 0, 1, 0, 0, 0],
            [1, 1, 1, 0, 1, 0, 0, 0, 0, 1, 0, 0, 1, 0, 0, 0, 1, 0, 0, 1, 0, 1, 1, 0, 0],
            [1, 1, 1, 1, 1, 0, 0, 0, 0, 0, 0, 0, 1, 0, 1, 0, 1, 0, 0, 0, 0, 1, 1, 0, 1],
        ])

    def test_folds_that_come_to_one_packet_are_told_by_the_first(self):
        self.check(3, 1, THREE, [
            [1, 1, 0, 0, 0, 0, 0, 0, 0, 0, 0, 0, 1, 0, 1, 0, 0, 0, 0, 2],
            [1, 1, 0, 1, 0, 0, 0, 0, 0, 1, 0, 0, 1, 0, 2, 0, 0, 0, 0, 0],
            [1, 1, 1, 0, 2, 0, 0, 1, 0, 2, 0, 0, 0, 0, 1, 0, 0, 1, 0, 0],
            [1, 1, 1, 1, 2, 0, 0, 1, 0, 1, 0, 0, 0, 0, 0, 0, 0, 1, 0, 2],
        ])

    def test_what_is_held_decides_what_goes_along(self):
        self.check(4, 1, HALVED, HALVED_MOVES)

    def test_a_packet_that_is_not_at_home(self):
        for x, y in ((1, 0), (0, 1), (-3, 7), (-100, 100), (99, -100)):
            self.check(4, 1, model.shifted(HALVED, x, y), HALVED_MOVES)


class Counts(unittest.TestCase):
    def test_a_flat_sheet_has_four_moves_for_each_line(self):
        for w, h in model.SHEETS:
            self.assertEqual(moves(w, h, model.flat(w, h)), [0, 4 * (w - 1 + h - 1)], (w, h))

    def test_one_square_has_no_move(self):
        for x, y in ((0, 0), (-100, 100), (100, -100)):
            self.assertEqual(moves(1, 1, [x, y, 1, 0, 0]), [0, 0])
            self.assertEqual(move(1, 1, 0, [x, y, 1, 0, 0]), [-2])

    def test_a_packet_on_one_place_has_no_move(self):
        self.assertEqual(moves(2, 1, [5, 5, 0, 0, 0, 5, 5, 1, 0, 1]), [0, 0])
        self.assertEqual(move(2, 1, 0, [5, 5, 0, 0, 0, 5, 5, 1, 0, 1]), [-2])

    def test_the_last_move_and_the_next(self):
        six = model.flat(6, 1)
        self.assertEqual(move(6, 1, 19, six)[:7], [0, 35, 1, 5, 1, 1, 5])
        for k in (20, 21, 4294967295):
            self.assertEqual(move(6, 1, k, six), [-2])

    def test_places_at_the_ends(self):
        for x, y in ((-100, 100), (95, -100)):
            self.assertEqual(all_moves(6, 1, model.flat(6, 1, x, y)), all_moves(6, 1, model.flat(6, 1)))
        for x, y in ((100, -100), (-100, 95)):
            self.assertEqual(all_moves(1, 6, model.flat(1, 6, x, y)), all_moves(1, 6, model.flat(1, 6)))

    def test_a_sheet_that_lies_turned(self):
        row = [100, 0, 1, 0, 0, 99, 0, 1, 0, 0]
        self.assertEqual(moves(2, 1, row), [0, 4])
        self.assertEqual(move(2, 1, 0, row), [0, 15, 1, 1, 0, 0, 1, 0, 0, 1, 0, 1, 0, 0, 0, 0, 0])


class AgainstTheModel(unittest.TestCase):
    def check(self, w, h, row):
        expected = [[0, 5 + len(made)] + fold + made for fold, made in model.moves(w, h, row)]
        self.assertEqual(moves(w, h, row), [0, len(expected)], (w, h, row))
        self.assertEqual(all_moves(w, h, row), (expected, [-2]), (w, h, row))

    def test_every_right_packet_of_up_to_five_squares(self):
        checked = 0
        for w, h in [sheet for sheet in model.SHEETS if sheet[0] * sheet[1] <= 5]:
            for row in model.packets(w, h):
                if model.crossing(w, h, row) is None:
                    self.check(w, h, row)
                    checked += 1
        self.assertGreater(checked, 800)

    def test_what_two_folds_make_of_six_squares(self):
        for w, h in ((6, 1), (1, 6), (3, 2), (2, 3)):
            level = [model.flat(w, h)]
            for _ in range(2):
                level = [made for row in level for _, made in model.moves(w, h, row)]
                for row in level[::7]:
                    self.check(w, h, row)

    def test_turned_packets(self):
        for turned in ([1, 0], [0, 1], [1, 1]):
            row = []
            for c in range(6):
                x, y = c % 3, c // 3
                row += [-x if turned[0] else x, -y if turned[1] else y, *turned, 0]
            self.check(3, 2, row)
            for _, made in model.moves(3, 2, row):
                self.check(3, 2, made)

    def test_what_a_fold_comes_to_is_right(self):
        for row in model.packets_turned(3, 2, (0, 0)):
            if model.crossing(3, 2, row) is None:
                for answer in all_moves(3, 2, row)[0]:
                    self.assertEqual(moves(3, 2, answer[7:])[0], 0, (row, answer))


class CallsStandByThemselves(unittest.TestCase):
    def test_the_list_handed_in_stays_as_it_was(self):
        for row in (list(HALVED), model.shifted(HALVED, -7, 9), HALVED[:-1], [9] * 20, HALVED[:-1] + [1]):
            kept = list(row)
            moves(4, 1, row)
            self.assertEqual(row, kept)
            for k in (0, 3, 99):
                move(4, 1, k, row)
                self.assertEqual(row, kept)

    def test_a_call_answers_the_same_again(self):
        rows = [(4, 1, HALVED), (3, 1, THREE), (2, 2, model.flat(2, 2)), (4, 1, [9] * 20), (0, 1, [])]
        first = [(moves(*call), move(call[0], call[1], 3, call[2])) for call in rows]
        second = [(moves(*call), move(call[0], call[1], 3, call[2])) for call in reversed(rows)]
        self.assertEqual(first, second[::-1])

    def test_an_answer_that_is_changed_changes_no_later_one(self):
        for call in ((3, 1, 0, THREE), (3, 1, 99, THREE), (0, 1, 0, THREE), (3, 1, 0, THREE[:-1] + [5])):
            answer = move(*call)
            kept = list(answer)
            answer.append(7)
            answer[0] = 8
            self.assertEqual(move(*call), kept)

    def test_answers_are_lists_of_whole_numbers(self):
        for answer in (moves(4, 1, HALVED), move(4, 1, 3, HALVED), move(4, 1, 99, HALVED), moves(4, 1, [9] * 20),
                       moves(4, 1, HALVED[:-1] + [1])):
            self.assertIs(type(answer), list)
            self.assertEqual({type(number) for number in answer}, {int})


if __name__ == "__main__":
    unittest.main()
