import copy
import random
import unittest

from line_samples import BYS, GREAT, cut_otherwise, flat_rows, has_integer, parted_pieces, random_rows
from readings import SlowLines, slow_parted
from samples import FULL, odd_values
from weandthey.errors import BadRows, NotParted
from weandthey.lines import Lines

ALL = (0, 1, None, None, (1, 0))
FORM = (0, 0)
EVENS, ODDS = (0, 2, None, None, FORM), (1, 2, None, None, FORM)


def with_form(*pieces):
    return tuple((*piece, FORM) for piece in pieces)


class TestExample(unittest.TestCase):
    def test_example(self):
        one, other = Lines(((0, 1, None, -1, (-1, 0)), (0, 1, 0, None, (1, 0)))), Lines(((0, 2, None, None, (0, 4)), (1, 2, None, None, (0, 3))))
        self.assertEqual(
            [[(one & other)(n) for n in (-9, -2, 3, 4)], [(one - other)(n) for n in (0, 1)], one.under(other), one.first_above(other), (one & other).top(), one.bottom(), one.moved(5)(-5), one.count_from(4, -5, 5)],
            [[3, 2, 3, 4], [-4, -2], False, 5, (4, 4), (0, 0), 0, 4],
        )


class TestBadRows(unittest.TestCase):
    def assert_bad(self, index, rows):
        before = copy.deepcopy(rows)
        with self.subTest(str(rows)[:80]):
            with self.assertRaises(BadRows) as caught:
                Lines(rows)
            self.assertEqual(caught.exception.index, index)
            self.assertIs(type(caught.exception.index), type(index))
            self.assertEqual(rows, before)

    def assert_no_row(self, value):
        """Assert that value is no row, wherever it stands and whatever is wrong behind it or with all together."""
        self.assert_bad(0, (value,))
        self.assert_bad(1, (ALL, value))
        self.assert_bad(2, (EVENS, ODDS, value, ALL))
        self.assert_bad(0, (value, value, None))
        self.assert_bad(3, (EVENS, ALL, (5, 10 ** 6, None, 7, FORM), value, ()))

    def assert_row(self, value):
        self.assert_bad(1, (value, None))

    def test_no_tuple(self):
        lines = Lines((ALL,))
        for value in odd_values() + [[ALL], list(lines.rows), {0: ALL}, str(lines.rows), lines]:
            with self.subTest(str(value)[:60]):
                with self.assertRaises(BadRows) as caught:
                    Lines(value)
                self.assertIsNone(caught.exception.index)

    def test_values_of_every_kind_for_a_row(self):
        for value in odd_values() + [(), (0,), FULL, list(ALL), (ALL,), [ALL]]:
            self.assert_no_row(value)
        with self.assertRaises(BadRows) as caught:
            Lines((ALL, Lines((ALL,))))
        self.assertEqual(caught.exception.index, 1)

    def test_values_of_every_kind_for_an_item(self):
        for at in range(5):
            for value in odd_values() + [(), (0,), (0, 0, 0), FULL]:
                if type(value) is int or at in (2, 3) and value is None:
                    continue
                self.assert_no_row((*ALL[:at], value, *ALL[at + 1:]))
                self.assert_no_row((*ALL[:4], (value, 0)))
                self.assert_no_row((*ALL[:4], (0, value)))

    def test_bools_for_integers(self):
        row = (0, 1, 0, 1, (0, 1))
        self.assert_row(row)
        for at in range(4):
            self.assert_no_row((*row[:at], bool(row[at]), *row[at + 1:]))
        self.assert_no_row((*row[:4], (False, 1)))
        self.assert_no_row((*row[:4], (0, True)))

    def test_number_of_items(self):
        for row in (ALL[:4], (*ALL, 0), (*ALL, FORM), (*ALL, None), ALL[1:], (*ALL[:4], 0, 0)):
            self.assert_no_row(row)
        for form in ((), (0,), (0, 0, 0), ((0, 0),), [0, 0], {0: 0}, 0, None, "00"):
            self.assert_no_row((*ALL[:4], form))

    def test_by(self):
        for by in (0, -1, -60, 10 ** 6 + 1, 10 ** 59, -(10 ** 59)):
            self.assert_no_row((0, by, None, None, FORM))
        for by in (1, 2, 59, 10 ** 6 - 1, 10 ** 6):
            self.assert_row((0, by, None, None, FORM))

    def test_rest(self):
        for by in (1, 2, 60, 10 ** 6):
            for rest in (-1, -by, by, by + 1, 10 ** 59):
                self.assert_no_row((rest, by, None, None, FORM))
            for rest in (0, by // 2, by - 1):
                self.assert_row((rest, by, None, None, FORM))

    def test_rows_about_no_integer(self):
        for row in ((0, 1, 1, 0), (0, 1, GREAT, GREAT - 1), (0, 1, 5, -5), (3, 10, 4, 12), (3, 10, -6, 2), (0, 2, 1, 1),
                    (59, 60, -60, -2), (0, 60, 1, 59), (0, 10 ** 6, 1, 999999), (1, 60, 60 * GREAT + 2, 60 * GREAT + 60)):
            self.assert_no_row((*row, FORM))
        for row in ((0, 1, 1, 1), (0, 1, -GREAT, -GREAT), (3, 10, 3, 12), (3, 10, 4, 13), (3, 10, -7, 2), (3, 10, -16, -7),
                    (0, 2, 1, 2), (59, 60, -60, -1), (0, 60, 1, 60), (0, 10 ** 6, 1, 10 ** 6), (1, 60, 2, None), (1, 60, None, -60)):
            self.assert_row((*row, FORM))

    def test_against_counting(self):
        source = random.Random(80)
        for _ in range(1500):
            by = source.choice(BYS + (7, 11, 100))
            low = source.choice([None, source.randint(-90, 90)])
            high = source.choice([None, source.randint(-90, 90), (low or 0) + source.randint(-3, 20)])
            row = (source.randrange(by), by, low, high, FORM)
            if low is not None and high is not None and low > high or not has_integer(*row[:4]):
                self.assert_no_row(row)
            else:
                self.assert_row(row)

    def test_numbers_of_any_size(self):
        self.assert_row((59, 60, -(GREAT ** 3), GREAT ** 3, (GREAT ** 3, -(GREAT ** 3))))


class TestNotParted(unittest.TestCase):
    def assert_not_parted(self, *pieces):
        with self.subTest(str(pieces)[:80]):
            with self.assertRaises(NotParted):
                Lines(with_form(*pieces))

    def test_nothing(self):
        self.assert_not_parted()

    def test_ends(self):
        self.assert_not_parted((0, 1, None, 5))
        self.assert_not_parted((0, 1, 5, None))
        self.assert_not_parted((0, 1, -(10 ** 59), None))
        self.assert_not_parted((0, 1, -5, 5))
        self.assert_not_parted((0, 1, None, None), (0, 1, 10 ** 59, None))
        self.assert_not_parted((0, 1, None, None), (0, 1, None, -(10 ** 59)))
        self.assert_not_parted((0, 1, None, None), (0, 1, None, None))

    def test_between_two_rows(self):
        for at in (-7, -1, 0, 1, 59, GREAT, -GREAT):
            self.assert_not_parted((0, 1, None, at), (0, 1, at, None))
            self.assert_not_parted((0, 1, None, at), (0, 1, at + 2, None))
            self.assert_not_parted((0, 1, at + 2, None), (0, 1, None, at))
            Lines(with_form((0, 1, at + 1, None), (0, 1, None, at)))

    def test_one_rest_only(self):
        self.assert_not_parted((0, 2, None, None))
        self.assert_not_parted((0, 2, None, None), (0, 2, None, None))
        self.assert_not_parted((0, 2, None, None), (1, 4, None, None))
        self.assert_not_parted((0, 2, None, None), (1, 3, None, None), (2, 6, None, None), (5, 6, None, None))
        self.assert_not_parted(*[(rest, 60, None, None) for rest in range(60) if rest != 37])
        self.assert_not_parted(*[(rest, 60, None, None) for rest in [*range(60), 37]])
        self.assert_not_parted((0, 2, None, None), (1, 2, None, 8), (1, 2, 11, None))
        self.assert_not_parted((0, 2, None, None), (1, 2, None, 9), (1, 2, 9, None))
        Lines(with_form((0, 2, None, None), (1, 2, None, 8), (1, 2, 9, None)))
        Lines(with_form((0, 2, None, None), (1, 2, None, 8), (1, 2, 8, None)))
        Lines(with_form((0, 2, None, None), (1, 2, None, 10), (1, 2, 10, None)))

    def test_as_many_left_out_as_twice_in(self):
        self.assert_not_parted((0, 2, None, None), (0, 2, None, None))
        self.assert_not_parted((0, 1, None, 3), (0, 1, 5, 9), (0, 1, 9, None))
        self.assert_not_parted((0, 1, None, -1), (0, 2, 0, 7), (0, 2, 0, 7), (0, 1, 8, None))
        self.assert_not_parted((0, 2, None, None), (1, 4, None, 1), (3, 4, None, 7), (1, 4, 5, None), (1, 4, 5, None))
        self.assert_not_parted((0, 3, None, None), (1, 3, None, 0), (2, 3, None, 0), (1, 3, 1, None), (1, 3, 1, None))
        self.assert_not_parted((0, 2, None, 0), (1, 2, None, 0), (0, 3, 1, None), (1, 3, 1, None), (0, 3, 1, None))

    def test_far_out(self):
        for far in (GREAT, -GREAT, 10 ** 60 - 1):
            self.assert_not_parted((0, 1, None, far - 1), (0, 1, far + 1, None))
            halves = [(far % 2, 2, far, far + 98), ((far + 1) % 2, 2, far, far + 98)]
            self.assert_not_parted((0, 1, None, far - 1), *halves, (0, 1, far + 100, None))
            self.assert_not_parted((0, 1, None, far - 1), *halves, (0, 1, far + 98, None))
            Lines(with_form((0, 1, None, far - 1), *halves, (0, 1, far + 99, None)))
            self.assert_not_parted((0, 1, None, None), (0, 1, far, far))
            self.assert_not_parted((0, 1, None, None), (7, 60, far, far + 59))

    def test_greater_bys(self):
        self.assert_not_parted((0, 10 ** 6, None, None))
        self.assert_not_parted((0, 1, None, None), (999999, 10 ** 6, GREAT, None))
        Lines(with_form((0, 1, None, 4), (5, 10 ** 6, 5, 5), (0, 1, 6, None)))
        Lines(with_form((0, 1, None, -1), *[(at, 1000 - at, at, at) for at in range(100)], (0, 1, 100, None)))
        self.assert_not_parted((0, 1, None, -1), *[(at, 1000 - at, at, at) for at in range(99)], (0, 1, 100, None))
        self.assert_not_parted((0, 1, None, -1), *[(at, 7 + at, at, at + 8) for at in range(9)], (0, 1, 9, None))
        self.assert_not_parted((0, 7, None, None), (0, 11, None, None))

    def test_rows_come_first(self):
        for rows in ((EVENS, None), (ALL, ALL, ()), (EVENS, (0, 0, None, None, FORM))):
            with self.assertRaises(BadRows):
                Lines(rows)

    def test_against_counting(self):
        source = random.Random(81)
        found = {True: 0, False: 0}
        for _ in range(1200):
            pieces = parted_pieces(source, 12, 20)
            at = source.randrange(len(pieces))
            pieces[at] = spoilt(source, pieces[at])
            if source.randrange(3) == 0:
                pieces[source.randrange(len(pieces))] = spoilt(source, source.choice(pieces))
            rows = with_form(*pieces)
            if not all(has_integer(*piece) for piece in pieces):
                continue
            wanted = slow_parted(rows)
            found[wanted] += 1
            if wanted:
                self.assertEqual(Lines(rows)(5), 0)
            else:
                self.assert_not_parted(*pieces)
        self.assertGreater(min(found.values()), 100)


def spoilt(source, piece):
    """Return a piece with one bound moved a little, with another rest, or cut."""
    rest, by, low, high = piece
    pick = source.randrange(4)
    if pick == 0:
        return (source.randrange(by), by, low, high)
    if pick == 1:
        return (rest, by, low, None if high is None else high + source.randint(-3, 3))
    if pick == 2:
        return (rest, by, None if low is None else low + source.randint(-3, 3), high)
    return (rest, by, low, source.randint(-20, 20)) if high is None else (rest, by, None, high)


class TestCalls(unittest.TestCase):
    def test_parted_rows(self):
        source = random.Random(82)
        for at in range(300):
            rows = random_rows(source) if at % 2 else flat_rows(source)
            before = copy.deepcopy(rows)
            lines, slow = Lines(rows), SlowLines(rows)
            for number in slow.near(4) + [10 ** 60 - 1, -(10 ** 60) + 1]:
                told = lines(number)
                self.assertEqual(told, slow(number))
                self.assertIs(type(told), int)
            self.assertEqual(rows, before)
            self.assert_tells_by_its_rows(lines)

    def assert_tells_by_its_rows(self, lines):
        self.assertIs(type(lines.rows), tuple)
        again = SlowLines(lines.rows)
        for number in again.near(2):
            self.assertEqual(again(number), lines(number))
        self.assertEqual(Lines(lines.rows), lines)

    def test_every_by(self):
        for by in BYS:
            rows = tuple((rest, by, None, None, (rest, -rest)) for rest in range(by))
            lines = Lines(rows[:12] if by <= 12 else rows)
            for number in [*range(-70, 70), GREAT, -GREAT + 7]:
                self.assertEqual(lines(number), number % by * (number - 1))

    def test_great_forms_and_bounds(self):
        far = 10 ** 60 - 7
        lines = Lines(((0, 1, None, -far, (-far, far)), (0, 1, 1 - far, far - 1, (3, -far)), (0, 1, far, None, (far, 1))))
        self.assertEqual(lines(-far), far * far + far)
        self.assertEqual(lines(1 - far), 3 - 4 * far)
        self.assertEqual(lines(far - 1), 2 * far - 3)
        self.assertEqual(lines(far), far * far + 1)

    def test_rows_about_one_integer(self):
        rows = ((0, 1, None, 4, (1, 0)), (5, 60, -54, 64, (0, 99)), (0, 1, 6, None, (-1, 0)))
        self.assertEqual([Lines(rows)(n) for n in (4, 5, 6, 65, -55)], [4, 99, -6, -65, -55])

    def test_changes_nothing(self):
        rows = random_rows(random.Random(83))
        lines, other = Lines(rows), Lines(rows)
        told = [lines(number) for number in range(-99, 99)]
        Lines(cut_otherwise(random.Random(84), rows))
        self.assertEqual([lines(number) for number in range(-99, 99)], told)
        self.assertEqual(lines.rows, other.rows)


if __name__ == "__main__":
    unittest.main()
