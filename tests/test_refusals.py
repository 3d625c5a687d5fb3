"""What moves and move refuse, and which refusal comes first."""

import unittest

from fewestfolds.packets import move, moves

import model

LARGEST = 9223372036854775807
LEAST = -9223372036854775808


class Refusals(unittest.TestCase):
    def refused(self, w, h, packet, answer):
        self.assertEqual(moves(w, h, packet), answer, (w, h, packet))
        for k in (0, 4294967295):
            self.assertEqual(move(w, h, k, packet), answer, (w, h, k, packet))

    def taken(self, w, h, packet):
        self.assertEqual(moves(w, h, packet)[0], 0, (w, h, packet))


class Sheets(Refusals):
    def test_sides_out_of_1_to_6(self):
        for wrong in (0, 7, 4294967295):
            for side in (1, 6):
                self.refused(wrong, side, model.flat(1, 1), [-1])
                self.refused(side, wrong, model.flat(1, 1), [-1])
            self.refused(wrong, wrong, [], [-1])
        self.refused(0, 1, [], [-1])
        self.refused(1, 0, [], [-1])
        self.refused(7, 1, model.flat(7, 1), [-1])
        self.refused(1, 7, model.flat(1, 7), [-1])

    def test_more_than_six_squares(self):
        for w in range(1, 7):
            for h in range(1, 7):
                if w * h > 6:
                    self.refused(w, h, model.flat(w, h)[:40], [-1])

    def test_every_sheet_of_up_to_six_squares_is_taken(self):
        self.assertEqual(len(model.SHEETS), 14)
        for w, h in model.SHEETS:
            self.taken(w, h, model.flat(w, h))

    def test_a_wrong_sheet_comes_before_a_fault(self):
        self.refused(7, 1, [0, 0, 0, 0, 1] * 7, [-1])


class Rows(Refusals):
    def test_not_five_numbers_for_each_square(self):
        for w, h in model.SHEETS:
            row = model.flat(w, h)
            self.refused(w, h, row[:-1], [-1])
            self.refused(w, h, row[:-5], [-1])
            self.refused(w, h, row + [0], [-1])
            self.refused(w, h, row + [0, 0, 0, 0, 0], [-1])
            self.refused(w, h, [], [-1])

    def test_forty_numbers(self):
        for w, h in model.SHEETS:
            self.refused(w, h, [0] * 40, [-1])
            self.refused(w, h, [LARGEST] * 40, [-1])
            self.refused(w, h, [LEAST] * 40, [-1])

    def test_places_out_of_range(self):
        for axis in range(2):
            for wrong in (-101, 101, LARGEST, LEAST):
                row = [0, 0, 0, 0, 0]
                row[axis] = wrong
                self.refused(1, 1, row, [-1])
            for end in (-100, 100):
                row = [0, 0, 0, 0, 0]
                row[axis] = end
                self.taken(1, 1, row)
        self.refused(2, 1, model.flat(2, 1, 100, 0), [-1])
        self.refused(1, 2, model.flat(1, 2, 0, 100), [-1])
        self.refused(6, 1, model.flat(6, 1, -101, 0), [-1])

    def test_turns_other_than_0_and_1(self):
        for at in (2, 3):
            for wrong in (-1, 2, LARGEST, LEAST):
                row = [0, 0, 0, 0, 0]
                row[at] = wrong
                self.refused(1, 1, row, [-1])
            row = [0, 0, 0, 0, 0]
            row[at] = 1
            self.taken(1, 1, row)

    def test_layers_below_0(self):
        for wrong in (-1, LEAST):
            self.refused(1, 1, [0, 0, 0, 0, wrong], [-1])
        self.refused(1, 1, [0, 0, 0, 0, LARGEST], [-5, 2, 0])

    def test_a_wrong_number_in_any_square_comes_before_a_fault(self):
        for c in range(6):
            for at, wrong in ((0, 101), (1, -101), (2, 2), (3, -1), (4, -1)):
                row = [50, 50, 0, 0, 9] * 6
                self.refused(3, 2, row, [-5, 1, 0])
                row[5 * c + at] = wrong
                self.refused(3, 2, row, [-1])


class BadlyJoined(Refusals):
    def test_of_two_squares_just_the_flat_and_the_folded_are_taken(self):
        for tx in range(2):
            for ty in range(2):
                right = {(-1 if tx else 1, 0, tx, ty): 0, (0, 0, 1 - tx, ty): 1}
                above = {(0, -1 if ty else 1, tx, ty): 0, (0, 0, tx, 1 - ty): 1}
                self.check_two(2, 1, tx, ty, right)
                self.check_two(1, 2, tx, ty, above)

    def check_two(self, w, h, tx, ty, fine):
        for x in range(-2, 3):
            for y in range(-2, 3):
                for other in ((0, 0), (0, 1), (1, 0), (1, 1)):
                    told = (x, y) + other
                    row = [0, 0, tx, ty, 0, *told, fine.get(told, 0)]
                    if told in fine:
                        self.taken(w, h, row)
                    else:
                        self.refused(w, h, row, [-5, 1, 0])

    def test_the_lowest_square_of_those_badly_joined(self):
        for c in range(5):
            row = model.flat(6, 1)
            for d in range(c + 1, 6):
                row[5 * d + 1] = d
            self.refused(6, 1, row, [-5, 1, c])

    def test_the_one_above_counts_as_the_one_to_the_right_does(self):
        row = model.flat(2, 2)
        row[16] = 5
        self.refused(2, 2, row, [-5, 1, 1])
        row = model.flat(2, 2)
        row[10:12] = [-1, 1]
        self.refused(2, 2, row, [-5, 1, 0])

    def test_the_ends_of_rows_are_not_joined(self):
        self.taken(2, 3, model.flat(2, 3))
        self.refused(6, 1, model.flat(2, 3), [-5, 1, 1])
        self.refused(3, 2, model.flat(2, 3), [-5, 1, 0])


class BadlyLayered(Refusals):
    def test_layers_of_one_square(self):
        for layer in (1, 2, 6, LARGEST):
            self.refused(1, 1, [0, 0, 0, 0, layer], [-5, 2, 0])

    def test_layers_of_two_squares_at_one_place(self):
        for low in range(4):
            for high in range(4):
                row = [3, 4, 0, 0, low, 3, 4, 1, 0, high]
                if sorted((low, high)) == [0, 1]:
                    self.taken(2, 1, row)
                else:
                    self.refused(2, 1, row, [-5, 2, 0])

    def test_the_lowest_square_at_a_place_with_wrong_layers(self):
        for c in range(6):
            row = model.flat(3, 2)
            row[5 * c + 4] = 1
            self.refused(3, 2, row, [-5, 2, c])
            for d in range(c, 6):
                row[5 * d + 4] = LARGEST
            self.refused(3, 2, row, [-5, 2, c])

    def test_a_square_counts_though_its_own_layer_could_stand(self):
        self.refused(3, 1, [0, 0, 0, 0, 0, 1, 0, 0, 0, 0, 1, 0, 1, 0, 2], [-5, 2, 1])


class Crossing(Refusals):
    def test_turns_that_cross(self):
        # At the right 0 turns to 1 and 2 to 3.
        for layers in ((0, 2, 1, 3), (1, 3, 2, 0), (0, 2, 3, 1), (3, 1, 0, 2)):
            self.refused(4, 1, pile(layers), [-5, 3, 0])
        for layers in ((0, 1, 2, 3), (0, 3, 2, 1), (3, 0, 1, 2), (1, 2, 3, 0)):
            self.taken(4, 1, pile(layers))

    def test_turns_that_cross_above_the_lowest_square(self):
        # At the left 1 turns to 2 and 3 to 4, at the right 0 to 1 and 2 to 3.
        self.refused(5, 1, pile((0, 1, 3, 2, 4)), [-5, 3, 1])

    def test_one_that_goes_on_between_the_two_of_a_turn(self):
        # At the right 0 turns to 1, and 2 goes on to 3.
        row = [0, 0, 0, 0, 0, 0, 0, 1, 0, 2, 0, 0, 0, 0, 1, 1, 0, 0, 0, 0]
        self.refused(4, 1, row, [-5, 3, 0])
        row[9], row[14] = 1, 2
        self.taken(4, 1, row)

    def test_one_of_a_lower_number_that_goes_on(self):
        # At the left of its place 1 goes on to 0, and 2 turns to 3.
        row = [0, 0, 0, 0, 0, 1, 0, 0, 0, 1, 1, 0, 1, 0, 0, 1, 0, 0, 0, 2]
        self.refused(4, 1, row, [-5, 3, 1])
        row[9], row[14] = 0, 1
        self.taken(4, 1, row)

    def test_two_that_go_on_and_change_their_order(self):
        row = [0, 0, 0, 0, 0, 1, 0, 0, 0, 1, 1, 0, 1, 0, 0, 0, 0, 1, 0, 1]
        self.refused(4, 1, row, [-5, 3, 0])
        row[9], row[14] = 0, 1
        self.taken(4, 1, row)

    def test_up_and_down_as_left_and_right(self):
        for row in ([0, 0, 0, 0, 0, 0, 0, 1, 0, 2, 0, 0, 0, 0, 1, 1, 0, 0, 0, 0],
                    [0, 0, 0, 0, 0, 1, 0, 0, 0, 1, 1, 0, 1, 0, 0, 0, 0, 1, 0, 1], pile((0, 2, 1, 3))):
            self.refused(1, 4, swapped(row), [-5, 3, 0])

    def test_every_layering_of_every_sheet_as_the_model_tells(self):
        for w, h in model.SHEETS:
            for row in model.packets(w, h):
                lowest = model.crossing(w, h, row)
                told = moves(w, h, row)
                if lowest is None:
                    self.assertEqual(told[0], 0, (w, h, row))
                else:
                    self.assertEqual(told, [-5, 3, lowest], (w, h, row))

    def test_as_many_right_piles_as_stamps_and_maps_have_foldings(self):
        known = {(1, 1): 1, (2, 1): 2, (3, 1): 6, (4, 1): 16, (5, 1): 50, (6, 1): 144, (2, 2): 8, (3, 2): 60}
        for (w, h), number in known.items():
            for sides in {(w, h), (h, w)}:
                on_one_place = [row for row in model.packets_turned(*sides, (0, 0)) if max(row[0::5] + row[1::5]) == 0]
                right = [row for row in on_one_place if moves(*sides, row)[0] == 0]
                self.assertEqual(len(right), number, sides)


class WhichComesFirst(Refusals):
    def test_bad_joins_before_bad_layers_before_crossings(self):
        # Turns cross at squares 0 to 3.
        row = pile((0, 2, 1, 3, 4, 5))
        self.refused(6, 1, row, [-5, 3, 0])
        self.refused(6, 1, row[:25] + [1, 0, 0, 0, 1], [-5, 2, 5])
        self.refused(6, 1, row[:25] + [2, 0, 0, 0, 0], [-5, 1, 4])
        self.refused(6, 1, row[:25] + [2, 0, 0, 0, 1], [-5, 1, 4])

    def test_bad_layers_of_a_high_square_before_a_crossing_of_low_ones(self):
        row = pile((0, 2, 1, 3)) + [-1, 0, 1, 0, 0]
        self.refused(5, 1, row, [-5, 3, 0])
        row[24] = 1
        self.refused(5, 1, row, [-5, 2, 4])

    def test_a_bad_join_of_a_high_square_before_bad_layers_of_low_ones(self):
        row = pile((5, 5, 5, 5)) + [-1, 0, 1, 0, 0]
        self.refused(5, 1, row, [-5, 2, 0])
        row[21] = 1
        self.refused(5, 1, row, [-5, 1, 3])

    def test_a_move_that_is_not_there_comes_last(self):
        self.assertEqual(move(1, 1, 5, [0, 0, 0, 0, 1]), [-5, 2, 0])
        self.assertEqual(move(1, 1, 5, [0, 0, 0, 2, 1]), [-1])
        self.assertEqual(move(1, 7, 5, [0, 0, 0, 0, 1]), [-1])
        self.assertEqual(move(1, 1, 5, [0, 0, 0, 0, 0]), [-2])


def pile(layers):
    """The row of a strip whose squares lie all at 0, 0 in these layers."""
    row = []
    for c, layer in enumerate(layers):
        row += [0, 0, c % 2, 0, layer]
    return row


def swapped(row):
    """The row with x and y changed for one another."""
    return [n for x, y, tx, ty, layer in model.squares(row) for n in (y, x, ty, tx, layer)]


if __name__ == "__main__":
    unittest.main()
