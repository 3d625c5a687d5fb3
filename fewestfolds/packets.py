"""Packets of a folded sheet: when one is right, what one fold makes of it, the fewest folds to it, and levels.

A square of a packet is the tuple (x, y, turned left to right, turned bottom to top, layer). What is said of
x and of y alike takes an axis, 0 for x and 1 for y: square[axis] and square[TURNED + axis] belong together.

A fold is the tuple (upright, k, high, over, held), so that it is told as it stands.

A level is a dict: its packets, in order, each with its row of folds.
"""

MOST_SQUARES = 6
FURTHEST = 100
MOST_FOLDS = 4
MOST_BEFORE_A_LEVEL = 120

NUMBERS = 5
TURNED = 2
LAYER = 4

UPRIGHT = 0
LINE = 1
HIGH = 2
OVER = 3
HELD = 4

NUMBERS_SEEN = 3


def moves(w, h, packet):
    """Answer how many moves the packet has."""
    refused = refusal(w, h, packet)
    if len(refused) > 0:
        return refused
    return [0, len(moves_of(w, at_home(squares_of(packet))))]


def move(w, h, k, packet):
    """Answer the k-th move: its fold, and the row of the packet that it comes to."""
    refused = refusal(w, h, packet)
    if len(refused) > 0:
        return refused
    found = moves_of(w, at_home(squares_of(packet)))
    if k >= len(found):
        return [-2]
    return answered_row(list(found[k][0]) + row_of(found[k][1]))


def way(w, h, n, packet):
    """Answer the fewest folds to the packet, sought within n folds."""
    refused = [-1] if n > MOST_FOLDS else refusal(w, h, packet)
    if len(refused) > 0:
        return refused
    wanted = tuple(at_home(squares_of(packet)))
    return sought(w, h, n, lambda squares: squares == wanted)


def show(w, h, n, row):
    """Answer the fewest folds to a packet that looks as the row tells, sought within n folds."""
    if n > MOST_FOLDS or not is_sheet(w, h) or not is_face(w, h, row):
        return [-1]
    return sought(w, h, n, lambda squares: face_of(squares) == row)


def count(w, h, n):
    """Answer how many packets level n has."""
    return told_of_level(w, h, n, lambda level: [0, len(level)])


def kth(w, h, n, k):
    """Answer the row of level n's k-th packet."""
    return told_of_level(w, h, n, lambda level: answered_row(row_of(level[k])) if k < len(level) else [-2])


def piles(w, h, n):
    """Answer how many packets of level n lie all on one place."""
    return told_of_level(w, h, n, lambda level: [0, len([squares for squares in level if is_pile(squares)])])


def answered_row(row):
    return [0, len(row)] + row


def refusal(w, h, packet):
    """Give the refusal that is due for the sheet or the packet's row, or an empty list."""
    if not is_sheet(w, h) or not is_row(w, h, packet):
        return [-1]
    found = fault(w, squares_of(packet))
    if len(found) > 0:
        return [-5] + found
    return []


def is_sheet(w, h):
    return 1 <= w <= MOST_SQUARES and 1 <= h <= MOST_SQUARES and w * h <= MOST_SQUARES


def is_row(w, h, row):
    if len(row) != NUMBERS * w * h:
        return False
    return all([is_square(square) for square in squares_of(row)])


def is_square(square):
    for axis in range(2):
        if not -FURTHEST <= square[axis] <= FURTHEST:
            return False
        if not 0 <= square[TURNED + axis] <= 1:
            return False
    return square[LAYER] >= 0


def is_face(w, h, row):
    seen = [row[start:start + NUMBERS_SEEN] for start in range(0, len(row), NUMBERS_SEEN)]
    return all([len(told) == NUMBERS_SEEN and min(told) >= 0 and told[2] < w * h for told in seen])


def squares_of(row):
    return [tuple(row[start:start + NUMBERS]) for start in range(0, len(row), NUMBERS)]


def row_of(squares):
    row = []
    for square in squares:
        row.extend(square)
    return row


def at_home(squares):
    least_x = min([square[0] for square in squares])
    least_y = min([square[1] for square in squares])
    return [(square[0] - least_x, square[1] - least_y) + square[TURNED:] for square in squares]


def same_place(square, other):
    return square[0] == other[0] and square[1] == other[1]


def is_pile(squares):
    return all([same_place(square, squares[0]) for square in squares])


def beside(w, c, d):
    """Tell whether squares c and d are beside one another on the sheet."""
    return abs(c % w - d % w) + abs(c // w - d // w) == 1


def square_after(w, squares, c, axis):
    """Give the square to the right of c on the sheet, or the one above it, or None."""
    if axis == 0:
        return c + 1 if c % w < w - 1 else None
    return c + w if c + w < len(squares) else None


def square_before(w, c, axis):
    """Give the square to the left of c on the sheet, or the one below it, or None."""
    if axis == 0:
        return c - 1 if c % w > 0 else None
    return c - w if c >= w else None


def fault(w, squares):
    """Give which fault the packet has, and the square, or an empty list if it is right."""
    # Each check builds on those before it, so a fault counts only when all squares passed the earlier ones.
    for c in range(len(squares)):
        if badly_joined(w, squares, c):
            return [1, c]
    for c in range(len(squares)):
        if badly_layered(squares, c):
            return [2, c]
    for c in range(len(squares)):
        if crosses_another(w, squares, c):
            return [3, c]
    return []


def badly_joined(w, squares, c):
    for axis in range(2):
        d = square_after(w, squares, c, axis)
        if d is not None and not joined_well(squares[c], squares[d], axis):
            return True
    return False


def joined_well(square, after, axis):
    return lie_flat(square, after, axis) or lie_folded(square, after, axis)


def lie_flat(square, after, axis):
    step = 1 if square[TURNED + axis] == 0 else -1
    return (after[axis] == square[axis] + step and after[1 - axis] == square[1 - axis]
            and after[TURNED:LAYER] == square[TURNED:LAYER])


def lie_folded(square, after, axis):
    return (same_place(square, after) and after[TURNED + axis] != square[TURNED + axis]
            and after[TURNED + 1 - axis] == square[TURNED + 1 - axis])


def badly_layered(squares, c):
    layers = sorted([square[LAYER] for square in squares if same_place(square, squares[c])])
    return layers != list(range(len(layers)))


def crosses_another(w, squares, c):
    """Tell whether c crosses a square of a higher number at its place."""
    for d in range(c + 1, len(squares)):
        if same_place(squares[c], squares[d]) and cross(w, squares, c, d):
            return True
    return False


def cross(w, squares, c, d):
    for axis in range(2):
        for high in range(2):
            if cross_at_side(w, squares, c, d, axis, high):
                return True
    return False


def cross_at_side(w, squares, c, d, axis, high):
    c_to = joined_at_side(w, squares, c, axis, high)
    d_to = joined_at_side(w, squares, d, axis, high)
    if c_to is None or d_to is None:
        return False
    c_turns = same_place(squares[c], squares[c_to])
    d_turns = same_place(squares[d], squares[d_to])
    if c_turns and d_turns:
        return d != c_to and between(squares, d, c, c_to) != between(squares, d_to, c, c_to)
    if c_turns:
        return between(squares, d, c, c_to)
    if d_turns:
        return between(squares, c, d, d_to)
    return above(squares, d, c) != above(squares, d_to, c_to)


def joined_at_side(w, squares, c, axis, high):
    """Give the square that c is joined to at the high or low side of its place, or None."""
    if squares[c][TURNED + axis] != high:
        return square_after(w, squares, c, axis)
    return square_before(w, c, axis)


def above(squares, c, d):
    return squares[c][LAYER] > squares[d][LAYER]


def between(squares, c, d, e):
    """Tell whether c's layer lies between those of d and e."""
    return above(squares, c, d) != above(squares, c, e)


def moves_of(w, squares):
    """Give the moves of a packet at home, each as its fold and the packet that it comes to."""
    first_folds = {}
    for fold in folds_in_order(squares):
        along = going_along(w, squares, fold)
        if 0 < len(along) < len(squares):
            comes_to = tuple(at_home(folded(squares, fold, along)))
            first_folds.setdefault(comes_to, fold)
    return [(first_folds[comes_to], comes_to) for comes_to in first_folds]


def folds_in_order(squares):
    """Give the folds whose line runs through the packet at home."""
    folds = []
    for line in lines_in_order(squares):
        for high in range(2):
            for over in range(2):
                folds.extend([line + (high, over, held) for held in range(len(squares))])
    return folds


def lines_in_order(squares):
    # At any other line all squares lie on one side: none can be held there, or all go along.
    level = [(0, k) for k in range(1, max([square[1] for square in squares]) + 1)]
    upright = [(1, k) for k in range(1, max([square[0] for square in squares]) + 1)]
    return level + upright


def axis_of(fold):
    return 0 if fold[UPRIGHT] == 1 else 1


def on_side(square, fold):
    """Tell whether the square lies on the side that is folded."""
    return (square[axis_of(fold)] >= fold[LINE]) == (fold[HIGH] == 1)


def going_along(w, squares, fold):
    """Give the squares that go along, none if the held one does not lie on the side that is folded."""
    if not on_side(squares[fold[HELD]], fold):
        return []
    along = [fold[HELD]]
    reached = 0
    while reached < len(along):
        c = along[reached]
        along.extend([d for d in range(len(squares)) if d not in along and draws(w, squares, fold, c, d)])
        reached += 1
    return along


def draws(w, squares, fold, c, d):
    """Tell whether c, going along, makes d go along."""
    if beside(w, c, d) and on_side(squares[d], fold):
        return True
    if not same_place(squares[c], squares[d]):
        return False
    return above(squares, d, c) if fold[OVER] == 1 else above(squares, c, d)


def folded(squares, fold, along):
    placed = [mirrored(square, fold) if c in along else square for c, square in enumerate(squares)]
    ranks = [rank(square, fold, c in along) for c, square in enumerate(squares)]
    return [square[:LAYER] + (new_layer(placed, ranks, c),) for c, square in enumerate(placed)]


def mirrored(square, fold):
    axis = axis_of(fold)
    numbers = list(square)
    numbers[axis] = 2 * fold[LINE] - 1 - square[axis]
    numbers[TURNED + axis] = 1 - square[TURNED + axis]
    return tuple(numbers)


def rank(square, fold, goes):
    """Give what tells, of two squares that come to one place, which lies lower: the one of the lesser rank."""
    if not goes:
        return (1, square[LAYER])
    return (2 * fold[OVER], -square[LAYER])


def new_layer(placed, ranks, c):
    return len([d for d in range(len(placed)) if same_place(placed[d], placed[c]) and ranks[d] < ranks[c]])


def sought(w, h, n, is_wanted):
    """Answer the row of folds to the first packet that is wanted, within n folds."""
    levels = levels_made(w, h, n)
    for level in levels:
        for packet in level:
            if is_wanted(packet):
                return answered_row(level[packet])
    return [-2] if len(levels) > n else [-6]


def told_of_level(w, h, n, tell):
    """Answer what is told of the list of level n's packets, or the refusal that is due ahead of it."""
    if n > MOST_FOLDS or not is_sheet(w, h):
        return [-1]
    levels = levels_made(w, h, n)
    return tell(list(levels[n])) if len(levels) > n else [-6]


def levels_made(w, h, n):
    """Give the levels from 0 to n, or those ahead of the first that isn't made."""
    levels = [{flat_sheet(w, h): []}]
    while len(levels) <= n and sum([len(level) for level in levels]) <= MOST_BEFORE_A_LEVEL:
        levels.append(level_after(w, levels))
    return levels


def flat_sheet(w, h):
    return tuple([(c % w, c // w, 0, 0, 0) for c in range(w * h)])


def level_after(w, levels):
    # Packets are gone through by their rows and folds in order, so the first row to come to one is its least.
    last = levels[-1]
    level = {}
    for packet in last:
        for fold, comes_to in moves_of(w, packet):
            if not any([comes_to in earlier for earlier in levels]):
                level.setdefault(comes_to, last[packet] + list(fold))
    return level


def face_of(squares):
    """Give the row of what is seen of a packet: of each place x, y and the square on top."""
    on_top = {}
    for c, square in enumerate(squares):
        # y stands first, so that sorted places are in the order in which they are told.
        place = (square[1], square[0])
        if place not in on_top or above(squares, c, on_top[place]):
            on_top[place] = c
    row = []
    for place in sorted(on_top):
        row.extend([place[1], place[0], on_top[place]])
    return row
