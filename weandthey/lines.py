"""Lines: one number for each integer, told by a line on each of many stretches."""

from weandthey.errors import BadRows, NotParted
from weandthey.stretches import are_parted, cells_of, columns_of, first_in, first_of, greatest_to, has_any, is_row
from weandthey.stretches import later, least_from, many_in, pieces_of, rank, sooner

# The low and high of a stretch without an integer.
NOWHERE = (1, 0)


def plus(one, other):
    """Return the form of the sum of two forms."""
    return (one[0] + other[0], one[1] + other[1])


def times(factor, form):
    """Return the form of a multiple of a form."""
    return (factor * form[0], factor * form[1])


def minus(one, other):
    """Return the form of the difference of two forms."""
    return plus(one, times(-1, other))


def told_by(form, number):
    """Return the number that a form tells on an integer."""
    return form[0] * number + form[1]


def reaching(low, high, form, value):
    """Return the low and high of that part of a stretch on which a form tells at least value."""
    slope, shift = form
    if slope == 0:
        return (low, high) if shift >= value else NOWHERE
    if slope > 0:
        return (later(low, -((shift - value) // slope)), high)
    return (low, sooner(high, (shift - value) // -slope))


def joined(pieces):
    """Return the pieces, in the order of cells_of, as a tuple, with one in the place of neighbours that end alike."""
    out = []
    for piece in pieces:
        if out and out[-1][0] == piece[0] and out[-1][4] == piece[4]:
            out[-1] = (piece[0], piece[1], out[-1][2], piece[3], piece[4])
        else:
            out.append(piece)
    return tuple(out)


def cut(low, high, form):
    """Return the (low, high) of that part of a stretch on which a form tells at least 0, and of the other part."""
    return (reaching(low, high, form, 0), reaching(low, high, times(-1, form), 1))


def extremes(one, other, greater):
    """Return the rows that tell the greater (or else the lesser) one of what two tuples of columns tell."""
    rows = []
    for rest, by, low, high, form, beside in cells_of(one, other):
        apart = minus(form, beside)
        above, below = cut(low, high, apart)
        parts = [(*above, form if greater else beside), (*below, beside if greater else form)]
        # A rising difference is below 0 first.
        for least, greatest, told in parts[::-1] if apart[0] > 0 else parts:
            if has_any(rest, by, least, greatest):
                rows.append((rest, by, least, greatest, told))
    return joined(rows)


def first_over(one, other):
    """Return the first number on which one tuple of columns tells more than the other one, or None."""
    found = []
    for rest, by, low, high, form, beside in cells_of(one, other):
        low, high = reaching(low, high, minus(form, beside), 1)
        found.append(first_in(rest, by, low, high))
    return first_of(found)


def greatest_on(rest, by, low, high, form):
    """Return (told, number) for the greatest number told on a stretch and the first integer there, or None."""
    if form[0] == 0:
        number = first_in(rest, by, low, high)
    elif form[0] > 0:
        number = None if high is None else greatest_to(rest, by, high)
    else:
        number = None if low is None else least_from(rest, by, low)
    return None if number is None else (told_by(form, number), number)


class Lines:
    """Tells for each integer the number of the form of the row in which it is.

    columns has what rows say in the order in which it is looked up: see columns_of.
    """

    def __init__(self, rows):
        if not isinstance(rows, tuple):
            raise BadRows(None)
        for index, row in enumerate(rows):
            if not is_row(row):
                raise BadRows(index)
        if not are_parted(rows):
            raise NotParted()
        self.rows = rows
        self.columns = columns_of(rows)

    def __call__(self, number):
        column = self.columns[number % len(self.columns)]
        forms = [form for low, high, form in column if high is None or number <= high]
        return told_by(forms[0], number)

    def __add__(self, other):
        cells = cells_of(self.columns, other.columns)
        return Lines(joined([(rest, by, low, high, plus(form, beside)) for rest, by, low, high, form, beside in cells]))

    def __sub__(self, other):
        return self + -other

    def __neg__(self):
        return self * -1

    def __mul__(self, other):
        return Lines(tuple([(rest, by, low, high, times(other, form)) for rest, by, low, high, form in self.rows]))

    def __and__(self, other):
        return Lines(extremes(self.columns, other.columns, False))

    def __or__(self, other):
        return Lines(extremes(self.columns, other.columns, True))

    def moved(self, number):
        """Return the Lines that tell on n what these tell on n + number."""
        found = []
        for rest, by, low, high, form in self.rows:
            low = None if low is None else low - number
            high = None if high is None else high - number
            found.append(((rest - number) % by, by, low, high, (form[0], told_by(form, number))))
        return Lines(tuple(found))

    def __eq__(self, other):
        return isinstance(other, Lines) and self.first_unlike(other) is None

    def under(self, other):
        """Return whether these tell nowhere more than the other ones."""
        return self.first_above(other) is None

    def first_unlike(self, other):
        """Return the first number on which both tell unlike numbers, or None."""
        return first_of([first_over(self.columns, other.columns), first_over(other.columns, self.columns)])

    def first_above(self, other):
        """Return the first number on which these tell more than the other ones, or None."""
        return first_over(self.columns, other.columns)

    def top(self):
        """Return (told, number) for the greatest number told at all and the first integer on which it is, or None."""
        found = [greatest_on(rest, by, low, high, form) for rest, by, low, high, form in pieces_of(self.columns)]
        if None in found:
            return None
        return min(found, key=lambda pair: (-pair[0], rank(pair[1])))

    def bottom(self):
        """Return (told, number) for the least number told at all and the first integer on which it is, or None."""
        found = (-self).top()
        return None if found is None else (-found[0], found[1])

    def count_from(self, value, low, high):
        """Return how many integers from low to high there are on which at least value is told."""
        total = 0
        for rest, by, least, greatest, form in pieces_of(self.columns):
            least, greatest = reaching(later(low, least), sooner(high, greatest), form, value)
            total += many_in(rest, by, least, greatest)
        return total
