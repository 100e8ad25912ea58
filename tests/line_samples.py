"""Rows for the tests of Lines."""

from readings import SlowLines

BYS = (1, 2, 3, 4, 5, 6, 10, 12, 15, 20, 30, 60)
SLOPES = (-3, -2, -1, -1, 0, 0, 0, 1, 1, 2, 3)
GREAT = 10 ** 59
NUMBERS = [0, 1, -1, 2, -3, 17, 59, 60, 61, -60, 9999, -9999]
MOVES = [0, 1, -1, 2, 7, -59, 60, 61, 1000, GREAT, -GREAT - 1, 10 ** 60 - 1, -(10 ** 60) + 1]

# Each operator, and what it tells by what both operands tell.
PAIRS = {
    "+": (lambda one, other: one + other, lambda one, other: one + other),
    "-": (lambda one, other: one - other, lambda one, other: one - other),
    "&": (lambda one, other: one & other, min),
    "|": (lambda one, other: one | other, max),
}


def has_integer(rest, by, low, high):
    """Return whether a row is about some integer, if its bounds are small."""
    if low is None or high is None:
        return True
    return any(number % by == rest for number in range(low, min(high, low + by) + 1))


def cut_at(piece, place):
    """Return both parts of a piece, below a place and from it on; one alone where the other one is empty."""
    rest, by, low, high = piece
    if low is not None and place <= low or high is not None and place > high:
        return [piece]
    parts = [(rest, by, low, place - 1), (rest, by, place, high)]
    return [part for part in parts if has_integer(*part)]


def cut_by(piece, factor):
    """Return the parts of a piece by a greater number, those without an integer left out."""
    rest, by, low, high = piece
    parts = [(rest + by * at, by * factor, low, high) for at in range(factor)]
    return [part for part in parts if has_integer(*part)]


def cut(source, piece, reach):
    """Return the parts of a piece that is cut once, in any way."""
    factors = [factor for factor in (2, 3, 4, 5, 6) if 60 % (piece[1] * factor) == 0]
    if factors and source.randrange(2):
        return cut_by(piece, source.choice(factors))
    return cut_at(piece, source.randint(-reach, reach))


def loosened(source, piece):
    """Return the same integers with bounds that stand further out, where no integer of the piece is."""
    rest, by, low, high = piece
    if low is not None:
        low += (rest - low) % by - source.randrange(by)
    if high is not None:
        high += source.randrange(by) - (high - rest) % by
    return (rest, by, low, high)


def parted_pieces(source, most, reach=40):
    """Return a list of at most so many pieces in which each integer is once."""
    pieces = [(0, 1, None, None)]
    for _ in range(source.randrange(3 * most)):
        at = source.randrange(len(pieces))
        parts = cut(source, pieces[at], reach)
        if len(pieces) + len(parts) - 1 <= most:
            pieces[at:at + 1] = parts
    if source.randrange(2):
        pieces = [loosened(source, piece) for piece in pieces]
    source.shuffle(pieces)
    return pieces


def random_form(source, shift=40):
    return (source.choice(SLOPES), source.randint(-shift, shift))


def random_rows(source, most=12, reach=40, shift=40):
    """Return parted rows."""
    return tuple((*piece, random_form(source, shift)) for piece in parted_pieces(source, most, reach))


def flat_rows(source, most=12):
    """Return parted rows in which a line without an end is level, so that there is a greatest and a least number."""
    rows = []
    for rest, by, low, high, form in random_rows(source, most):
        slope = 0 if low is None or high is None else form[0]
        rows.append((rest, by, low, high, (slope, source.randint(-5, 5))))
    return tuple(rows)


def cut_otherwise(source, rows, times=8):
    """Return rows that tell the same, some of them cut."""
    rows = list(rows)
    for _ in range(times):
        at = source.randrange(len(rows))
        parts = cut(source, rows[at][:4], 60)
        rows[at:at + 1] = [(*part, rows[at][4]) for part in parts]
    source.shuffle(rows)
    return tuple(rows)


def crossings(one, other):
    """Return the integers beside which some line of one row crosses some line of another."""
    found = set()
    for _, _, _, _, (slope, shift) in one:
        for _, _, _, _, (steep, lift) in other:
            if slope != steep:
                found.add((lift - shift) // (slope - steep))
    return found


def points(*many, radius=3):
    """Return the integers near the bounds of rows, near where any two lines cross, near 0 and far out."""
    found = set()
    for rows in many:
        found.update(SlowLines(rows).near(radius))
    for at in crossings(many[0], many[-1]):
        found.update(range(at - radius, at + radius + 1))
    return sorted(found)


def once(source, one, other):
    """Return what comes by one operator or moved, and a function that tells the same."""
    pick = source.randrange(7)
    if pick == 4:
        return (-one, lambda number: -one(number))
    if pick == 5:
        factor = source.choice(NUMBERS)
        return (one * factor, lambda number: one(number) * factor)
    if pick == 6:
        move = source.choice(MOVES)
        return (one.moved(move), lambda number: one(number + move))
    operator, by_numbers = list(PAIRS.values())[pick]
    return (operator(one, other), lambda number: by_numbers(one(number), other(number)))
