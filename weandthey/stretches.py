"""Stretches: all integers with one rest by a number that are not less than low and not greater than high.

None stands for no bound. A piece is a tuple of the rest, by, low and high of a
stretch and one item more; a row is a piece that ends in a form.
"""

from weandthey.bounds import MAX_PERIOD
from weandthey.programs import is_integer, is_within


def common_divisor(one, other):
    """Return (divisor, factor) for two positive numbers: other divides factor * one - divisor."""
    factor, behind = 1, 0
    while other > 0:
        times = one // other
        one, other = other, one - times * other
        factor, behind = behind, factor - times * behind
    return (one, factor)


def common_multiple(numbers):
    """Return the least positive number that all of these divide."""
    found = 1
    for number in numbers:
        found = found // common_divisor(found, number)[0] * number
    return found


def later(one, other):
    """Return the greater one of two low bounds."""
    if one is None or other is None:
        return other if one is None else one
    return max(one, other)


def sooner(one, other):
    """Return the lesser one of two high bounds."""
    if one is None or other is None:
        return other if one is None else one
    return min(one, other)


def is_between(number, low, high):
    """Return whether a number keeps both bounds."""
    return (low is None or low <= number) and (high is None or number <= high)


def least_from(rest, by, low):
    """Return the least integer with this rest that is not less than low."""
    return low + (rest - low) % by


def greatest_to(rest, by, high):
    """Return the greatest integer with this rest that is not greater than high."""
    return high - (high - rest) % by


def has_any(rest, by, low, high):
    """Return whether a stretch has an integer at all."""
    return low is None or high is None or least_from(rest, by, low) <= high


def many_in(rest, by, low, high):
    """Return how many integers a stretch with both bounds has."""
    return max(0, (greatest_to(rest, by, high) - least_from(rest, by, low)) // by + 1)


def parts_by(rest, by, period):
    """Return a list of (rest, by): all integers with one rest, parted so that each has one rest by the period."""
    whole = common_multiple([by, period])
    return [(number, whole) for number in range(rest, whole, by)]


def rank(number):
    """Return how many integers come ahead of this one in the order of inputs."""
    return 2 * number - 1 if number > 0 else -2 * number


def first_of(numbers):
    """Return the first one of a list of numbers, in the order of inputs, or None; None in it counts for nothing."""
    return min([number for number in numbers if number is not None], key=rank, default=None)


def first_in(rest, by, low, high):
    """Return the first number of a stretch, or None if it has none."""
    nearest = (least_from(rest, by, later(low, 0)), greatest_to(rest, by, sooner(high, -1)))
    return first_of([number for number in nearest if is_between(number, low, high)])


def is_bound(value):
    """Return whether value can be a low or a high."""
    return value is None or is_integer(value)


def is_piece(value):
    """Return whether value is a piece with an integer in its stretch, whatever its last item is."""
    if not isinstance(value, tuple) or len(value) != 5:
        return False
    rest, by, low, high = value[:4]
    if not is_within(by, 1, MAX_PERIOD) or not is_within(rest, 0, by - 1):
        return False
    return is_bound(low) and is_bound(high) and has_any(rest, by, low, high)


def is_form(value):
    """Return whether value is a tuple of two integers."""
    return isinstance(value, tuple) and len(value) == 2 and is_integer(value[0]) and is_integer(value[1])


def is_row(value):
    """Return whether value is a row."""
    return is_piece(value) and is_form(value[4])


def meet(one, other):
    """Return whether an integer is in two pieces."""
    low, high = later(one[2], other[2]), sooner(one[3], other[3])
    # Of many pieces most pairs end here, where no divisor has been looked for.
    if low is not None and high is not None and low > high:
        return False
    divisor, factor = common_divisor(one[1], other[1])
    apart = other[0] - one[0]
    if apart % divisor != 0:
        return False
    shared = one[0] + one[1] * factor * (apart // divisor)
    return has_any(shared, one[1] // divisor * other[1], low, high)


def low_order(piece):
    """Return what pieces are put in the order of their lows by."""
    return (0, 0) if piece[2] is None else (1, piece[2])


def by_one(piece):
    """Return a piece about one integer with 1 as its by, any other piece as it is."""
    rest, by, low, high = piece[:4]
    if low is None or high is None or many_in(rest, by, low, high) > 1:
        return piece
    number = least_from(rest, by, low)
    return (0, 1, number, number) + piece[4:]


def none_meet(pieces):
    """Return whether no integer is in two of the pieces."""
    # The by of a piece about one integer means nothing, and few bys are quickly compared.
    pieces = [by_one(piece) for piece in pieces]
    ordered = sorted(sorted(pieces, key=low_order), key=lambda piece: piece[:2])
    # Of pieces with one rest and one by, in order, some meet only if two neighbours do.
    if any([meet(one, other) for one, other in zip(ordered, ordered[1:])]):
        return False
    bys = sorted(set([piece[1] for piece in pieces]))
    groups = [[one for one in ordered if one[1] == by] for by in bys]
    for at, group in enumerate(groups):
        for against in groups[at + 1:]:
            divisor = common_divisor(group[0][1], against[0][1])[0]
            # Where a small by divides a great one, few pairs of many have one rest.
            pairs = [(one, other) for one in group for other in against if (one[0] - other[0]) % divisor == 0]
            if any([meet(one, other) for one, other in pairs]):
                return False
    return True


def fill_an_end(bys):
    """Return whether pieces by these numbers, of which no two meet, leave nothing out where no bound is left."""
    whole = common_multiple(bys)
    return sum([whole // by for by in bys]) == whole


def fill_between(pieces):
    """Return whether pieces of which no two meet leave nothing out between the least and the greatest bound."""
    bounds = [bound for piece in pieces for bound in piece[2:4] if bound is not None]
    if not bounds:
        return True
    least, greatest = min(bounds), max(bounds)
    many = [many_in(piece[0], piece[1], later(piece[2], least), sooner(piece[3], greatest)) for piece in pieces]
    return sum(many) == greatest - least + 1


def are_parted(pieces):
    """Return whether each integer is in just one of the pieces."""
    # Counting is cheap and settles most that is wrong; it takes for granted that no two meet.
    if not fill_an_end([piece[1] for piece in pieces if piece[2] is None]):
        return False
    if not fill_an_end([piece[1] for piece in pieces if piece[3] is None]):
        return False
    return fill_between(pieces) and none_meet(pieces)


def columns_of(rows):
    """Return the columns of parted rows: for each rest by their period, the tuple of its (low, high, form) in order."""
    # The by of a row about one integer means nothing and would only make the period greater.
    plain = [by_one(row) for row in rows]
    period = common_multiple([row[1] for row in plain])
    columns = [() for at in range(period)]
    for rest, by, low, high, form in sorted(plain, key=low_order):
        for at in range(rest, period, by):
            if has_any(at, period, low, high):
                columns[at] = columns[at] + ((low, high, form),)
    return tuple(columns)


def pieces_of(columns):
    """Return the list of all (rest, by, low, high, form) of a tuple of columns."""
    by = len(columns)
    return [(rest, by, *piece) for rest, column in enumerate(columns) for piece in column]


def overlaid(one, other, rest, by):
    """Return a list of (rest, by, low, high, form, form): where two columns, on this rest, tell one form each."""
    cells = []
    at, beside = 0, 0
    while at < len(one) and beside < len(other):
        low, high = later(one[at][0], other[beside][0]), sooner(one[at][1], other[beside][1])
        if has_any(rest, by, low, high):
            cells.append((rest, by, low, high, one[at][2], other[beside][2]))
        # The one that ends first has nothing left; the last one of a column does not end.
        if one[at][1] == high:
            at = at + 1
        else:
            beside = beside + 1
    return cells


def cells_of(one, other):
    """Return a list of all (rest, by, low, high, form, form) on which two tuples of columns tell one form each."""
    by = common_multiple([len(one), len(other)])
    cells = []
    for rest in range(by):
        cells.extend(overlaid(one[rest % len(one)], other[rest % len(other)], rest, by))
    return cells
