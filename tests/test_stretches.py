"""Tests of what Lines are built from, also for numbers by which no Lines of a caller go."""

import random
import unittest

from line_samples import cut_at, cut_by, has_integer
from readings import SlowLines, input_order
from weandthey.lines import Lines
from weandthey.stretches import are_parted, common_divisor, common_multiple, first_in, first_of, is_piece, many_in, meet, rank


def members(piece, numbers):
    rest, by, low, high = piece[:4]
    return [n for n in numbers if n % by == rest and (low is None or n >= low) and (high is None or n <= high)]


def random_piece(source, bys):
    by = source.choice(bys)
    low = source.choice([None, source.randint(-30, 30)])
    high = source.choice([None, (low or 0) + source.randint(0, 30)])
    return (source.randrange(by), by, low, high)


class TestNumbers(unittest.TestCase):
    def test_common_divisor(self):
        for one in range(1, 40):
            for other in range(1, 40):
                divisor, factor = common_divisor(one, other)
                self.assertEqual(divisor, max(n for n in range(1, 40) if one % n == 0 and other % n == 0))
                self.assertEqual((factor * one - divisor) % other, 0)

    def test_common_multiple(self):
        self.assertEqual([common_multiple(numbers) for numbers in ([], [7], [4, 6], [2, 3, 4, 5, 6], [10 ** 6, 999999])],
                         [1, 7, 12, 60, 999999 * 10 ** 6])

    def test_order_of_inputs(self):
        self.assertEqual([rank(number) for number in (0, 1, -1, 2, -2, 3, -3)], list(range(7)))
        self.assertEqual([first_of(numbers) for numbers in ([], [None], [-2, None, 2], [3, -2])], [None, None, 2, -2])


class TestStretches(unittest.TestCase):
    bys = (1, 2, 3, 4, 5, 6, 7, 8, 9, 11, 13, 60)

    def test_one_stretch(self):
        source = random.Random(120)
        for _ in range(1500):
            piece = random_piece(source, self.bys)
            found = members(piece, input_order(range(-200, 201)))
            self.assertEqual(first_in(*piece), found[0] if found else None)
            self.assertIs(is_piece((*piece, "anything")), bool(found))
            if None not in piece:
                self.assertEqual(many_in(*piece), len(found))

    def test_two_stretches(self):
        source = random.Random(121)
        seen = {True: 0, False: 0}
        for _ in range(1500):
            one, other = random_piece(source, self.bys), random_piece(source, self.bys)
            wanted = bool(members(other, members(one, range(-900, 901))))
            seen[wanted] += 1
            self.assertIs(meet(one, other), wanted)
            self.assertIs(meet(other, one), wanted)
        self.assertGreater(min(seen.values()), 200)


def any_pieces(source):
    """Return parted pieces, cut by any small numbers."""
    pieces = [(0, 1, None, None)]
    for _ in range(source.randrange(8)):
        at = source.randrange(len(pieces))
        if source.randrange(2) and pieces[at][1] < 20:
            parts = cut_by(pieces[at], source.choice([2, 3, 5, 7]))
        else:
            parts = cut_at(pieces[at], source.randint(-20, 20))
        pieces[at:at + 1] = parts
    return pieces


class TestParted(unittest.TestCase):
    def test_any_small_numbers(self):
        source = random.Random(122)
        seen = {True: 0, False: 0}
        for at in range(600):
            pieces = any_pieces(source)
            if at % 2:
                place = source.randrange(len(pieces))
                pieces[place] = random_piece(source, [piece[1] for piece in pieces])
            if source.randrange(4) == 0:
                pieces.append(source.choice(pieces))
                del pieces[source.randrange(len(pieces))]
            if not all(has_integer(*piece) for piece in pieces):
                continue
            whole = common_multiple([piece[1] for piece in pieces])
            if whole > 2000:
                continue
            slow = SlowLines([(*piece, None) for piece in pieces])
            reach = 80 + whole
            wanted = all(len(slow.rows_about(number)) == 1 for number in range(-reach, reach))
            seen[wanted] += 1
            self.assertIs(are_parted([(*piece, None) for piece in pieces]), wanted)
        self.assertGreater(min(seen.values()), 100)

    def test_many_pieces_by_great_numbers(self):
        singles = [(at, 10 ** 6 - at, at, at) for at in range(400)]
        ends = [(0, 1, None, -1), (0, 1, 400, None)]
        self.assertIs(are_parted(singles + ends), True)
        self.assertIs(are_parted(singles[1:] + ends), False)
        self.assertIs(are_parted(singles + ends + singles[7:8]), False)
        wide = [(0, 999983, 0, 999983), *singles[1:]]
        self.assertIs(are_parted(wide + ends), False)
        self.assertIs(are_parted([(0, 999983 - at, None, None) for at in range(400)]), False)


class TestJoined(unittest.TestCase):
    def test_neighbours_with_one_form_are_one_row(self):
        zero = Lines(((0, 1, None, None, (0, 0)),))
        cut = Lines(((0, 1, None, -5, (1, 2)), (0, 1, -4, 7, (1, 2)), (0, 1, 8, 8, (0, 10)), (0, 1, 9, None, (1, 2))))
        self.assertEqual((cut + zero).rows, ((0, 1, None, 7, (1, 2)), (0, 1, 8, 8, (0, 10)), (0, 1, 9, None, (1, 2))))
        self.assertEqual((zero & zero).rows, zero.rows)
        halves = Lines(((0, 2, None, 0, (0, 1)), (0, 2, 1, None, (0, 1)), (1, 2, None, None, (0, 1))))
        self.assertEqual(len((halves | zero).rows), 2)


if __name__ == "__main__":
    unittest.main()
