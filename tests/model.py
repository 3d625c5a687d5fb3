"""A second telling of the document, in another form than the program's, for the tests to compare with.

Packets are drawn here as piles of squares, and crossings as chords in the gap between two places.
"""

from itertools import permutations, product

SHEETS = [(w, h) for w in range(1, 7) for h in range(1, 7) if w * h <= 6]


def flat(w, h, x=0, y=0):
    """The row of the sheet lying flat, its square 0 at x, y."""
    row = []
    for c in range(w * h):
        row += [x + c % w, y + c // w, 0, 0, 0]
    return row


def squares(row):
    return [tuple(row[i:i + 5]) for i in range(0, len(row), 5)]


def shifted(row, x, y):
    return [n for s in squares(row) for n in (s[0] + x, s[1] + y, *s[2:])]


def homed(row):
    return shifted(row, -min(row[0::5]), -min(row[1::5]))


def neighbours(w, h, c):
    column, line = c % w, c // w
    found = []
    if column > 0:
        found.append(c - 1)
    if column < w - 1:
        found.append(c + 1)
    if line > 0:
        found.append(c - w)
    if line < h - 1:
        found.append(c + w)
    return found


def strip(creases, turned):
    """Place and turn of each column (or row) of a sheet, by the first one's turn and the lines that are folded."""
    at, told = 0, [(0, turned)]
    for crease in creases:
        if crease:
            turned = 1 - turned
        else:
            at += -1 if turned else 1
        told.append((at, turned))
    return told


def packets(w, h):
    """Rows at home of all packets that have neither fault 1 nor fault 2."""
    for turned in product((0, 1), repeat=2):
        yield from packets_turned(w, h, turned)


def packets_turned(w, h, turned):
    """Those of packets whose square 0 is turned so."""
    for across, up in product(product((0, 1), repeat=w - 1), product((0, 1), repeat=h - 1)):
        columns, lines = strip(across, turned[0]), strip(up, turned[1])
        places = [(columns[c % w], lines[c // w]) for c in range(w * h)]
        spots = sorted({(x, y) for (x, _), (y, _) in places})
        members = [[c for c, ((x, _), (y, _)) in enumerate(places) if (x, y) == spot] for spot in spots]
        for order in product(*[permutations(range(len(pile))) for pile in members]):
            layer = {c: n for pile, ns in zip(members, order) for c, n in zip(pile, ns)}
            row = []
            for c, ((x, tx), (y, ty)) in enumerate(places):
                row += [x, y, tx, ty, layer[c]]
            yield homed(row)


def chords(w, h, row):
    """By gap between places: the joined pairs that run there, each end as (its turn round the gap, its square)."""
    told = squares(row)
    gaps = {}
    for c in range(w * h):
        for d in [d for d in neighbours(w, h, c) if d > c]:
            axis = 0 if d == c + 1 and w > 1 else 1
            start = told[c][axis] + (0 if told[c][2 + axis] else 1)
            gap = (axis, start, told[c][1 - axis])
            ends = []
            for s in (c, d):
                beyond = told[s][axis] >= start
                # Round the gap: up along its near side, then down along its far side.
                ends.append((100 - told[s][4] if beyond else told[s][4], beyond, s))
            gaps.setdefault(gap, []).append(sorted(ends))
    return gaps


def crossing(w, h, row):
    """The lowest square of fault 3, or None."""
    lowest = []
    for pairs in chords(w, h, row).values():
        for i, one in enumerate(pairs):
            for other in pairs[i + 1:]:
                inside = [one[0][0] < end[0] < one[1][0] for end in other]
                if inside[0] != inside[1]:
                    lowest += [min(a[2], b[2]) for a in one for b in other if a[1] == b[1]]
    return min(lowest, default=None)


def piles(row):
    told = {}
    for c, (x, y, _, _, layer) in sorted(enumerate(squares(row)), key=lambda cs: cs[1][4]):
        told.setdefault((x, y), []).append(c)
    return told


def carried(w, h, row, side, over, held):
    """The set of squares that go along, by drawing in more until nothing is added."""
    places = {c: s[:2] for c, s in enumerate(squares(row))}
    stacks = piles(row)
    along, before = {held}, set()
    while along != before:
        before = set(along)
        for c in before:
            along |= set(neighbours(w, h, c)) & side
            pile = stacks[places[c]]
            at = pile.index(c)
            along |= set(pile[at:] if over else pile[:at + 1])
    return along


def after_fold(w, h, row, fold):
    """The row at home that the fold comes to, or None if it can't be done."""
    upright, k, high, over, held = fold
    axis = 1 - upright
    told = squares(row)
    side = {c for c, s in enumerate(told) if (s[axis] >= k if high else s[axis] < k)}
    if held not in side:
        return None
    along = carried(w, h, row, side, over, held)
    if len(along) == w * h:
        return None
    stay, come = {}, {}
    for (x, y), pile in piles(row).items():
        stay[(x, y)] = [c for c in pile if c not in along]
        to = (2 * k - 1 - x, y) if upright else (x, 2 * k - 1 - y)
        come[to] = [c for c in reversed(pile) if c in along]
    made = [None] * (w * h)
    for place in set(stay) | set(come):
        kept, new = stay.get(place, []), come.get(place, [])
        for layer, c in enumerate(kept + new if over else new + kept):
            turns = list(told[c][2:4])
            turns[axis] ^= c in along
            made[c] = [*place, *turns, layer]
    return homed([n for square in made for n in square])


def folds(w, h, row):
    """The (fold, row) of all folds of a packet that can be done, in order, tried far beyond its ends."""
    row = homed(row)
    for fold in product((0, 1), range(0, 8), (0, 1), (0, 1), range(w * h)):
        made = after_fold(w, h, row, fold)
        if made is not None:
            yield list(fold), made


def moves(w, h, row):
    """The list of (fold, row) of all moves of a packet."""
    seen, found = [], []
    for fold, made in folds(w, h, row):
        if made not in seen:
            seen.append(made)
            found.append((fold, made))
    return found


def fold_rows(w, h, n):
    """All (row of n folds, row that it comes to) of the flat sheet, none left out: for few folds of small sheets."""
    found = [([], flat(w, h))]
    for _ in range(n):
        found = [(before + fold, made) for before, row in found for fold, made in folds(w, h, row)]
    return found


def levels(w, h, n):
    """Levels 0 to n, ahead of the first that isn't made: of each the list of (row of folds, packet's row)."""
    made = [[([], flat(w, h))]]
    while len(made) <= n and sum(len(level) for level in made) <= 120:
        known = {tuple(row) for level in made for _, row in level}
        least = {}
        for before, row in made[-1]:
            for fold, to in folds(w, h, row):
                least[tuple(to)] = min(before + fold, least.get(tuple(to), [9]))
        made.append(sorted((told, list(to)) for to, told in least.items() if to not in known))
    return made


def replayed(w, h, told):
    """The row that a row of folds makes of the flat sheet, None if one of them can't be done."""
    row = flat(w, h)
    for i in range(0, len(told), 5):
        row = None if row is None else after_fold(w, h, row, told[i:i + 5])
    return row


def face(row):
    """What is seen of a packet at home from above, three numbers for each place."""
    tops = [(y, x, pile[-1]) for (x, y), pile in piles(homed(row)).items()]
    return [n for y, x, c in sorted(tops) for n in (x, y, c)]


def right_packets(w, h):
    """Rows at home of all right packets, however turned."""
    return [row for row in packets(w, h) if crossing(w, h, row) is None]
