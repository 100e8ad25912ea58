import copy
import random
import unittest

from line_samples import GREAT, MOVES, NUMBERS, PAIRS, crossings, flat_rows, once, points, random_rows
from readings import SlowLines
from weandthey.lines import Lines


def rows_for(source, at):
    if at % 4 == 0:
        return flat_rows(source)
    return random_rows(source, 12, source.choice([10, 40, 400]), source.choice([0, 5, 40, 10 ** 9]))


class TestCase(unittest.TestCase):
    def assert_tells(self, result, told, numbers):
        """Assert that Lines tell what a function tells, by calls and by their rows, which are parted."""
        self.assertIs(type(result), Lines)
        self.assertIs(type(result.rows), tuple)
        rows = SlowLines(result.rows)
        for number in numbers:
            wanted = told(number)
            self.assertEqual(result(number), wanted, number)
            self.assertEqual(rows(number), wanted, number)
        for row in result.rows:
            self.assertEqual([type(part) for part in (row, row[0], row[1], row[4], *row[4])], [tuple, int, int, tuple, int, int])

    def assert_parted(self, result):
        self.assertEqual(Lines(result.rows).rows, result.rows)


class TestPairs(TestCase):
    def test_against_the_numbers_told(self):
        source = random.Random(90)
        for at in range(120):
            one, other = rows_for(source, at), rows_for(source, at + source.randrange(2))
            before = copy.deepcopy((one, other))
            first, second = Lines(one), Lines(other)
            slow_one, slow_other = SlowLines(one), SlowLines(other)
            kept = (first.rows, second.rows)
            numbers = points(one, other, radius=2)
            for sign, (operator, by_numbers) in PAIRS.items():
                with self.subTest(at=at, sign=sign):
                    result = operator(first, second)
                    told = {number: by_numbers(slow_one(number), slow_other(number)) for number in numbers}
                    self.assert_tells(result, told.get, numbers)
                    self.assert_parted(result)
                    near = SlowLines(result.rows).near(1)
                    self.assert_tells(result, lambda number: by_numbers(slow_one(number), slow_other(number)), near[::5])
            self.assertEqual((one, other), before)
            self.assertEqual((first.rows, second.rows), kept)
            self.assert_tells(first, SlowLines(one), numbers[::5])
            self.assert_tells(second, SlowLines(other), numbers[::5])

    def test_beside_a_crossing(self):
        for slope, shift, steep, lift in ((1, 0, -1, 7), (2, 1, -1, 0), (3, -50, 1, 3), (-3, 1, -2, 0), (0, 5, 7, 0), (1, 0, 2, -GREAT)):
            one, other = Lines(((0, 1, None, None, (slope, shift)),)), Lines(((0, 1, None, None, (steep, lift)),))
            (place,) = crossings(one.rows, other.rows)
            for number in range(place - 5, place + 6):
                two = (slope * number + shift, steep * number + lift)
                self.assertEqual((one & other)(number), min(two))
                self.assertEqual((other & one)(number), min(two))
                self.assertEqual((one | other)(number), max(two))
                self.assertEqual((other | one)(number), max(two))

    def test_operand_with_itself(self):
        source = random.Random(91)
        for at in range(40):
            one = Lines(rows_for(source, at))
            self.assertEqual(one & one, one)
            self.assertEqual(one | one, one)
            self.assertEqual(one + one, one * 2)
            self.assertEqual(one - one, one * 0)

    def test_known_laws(self):
        source = random.Random(92)
        for at in range(40):
            one, other = Lines(rows_for(source, at)), Lines(rows_for(source, at + 1))
            self.assertEqual(one + other, other + one)
            self.assertEqual(one & other, other & one)
            self.assertEqual(one | other, other | one)
            self.assertEqual((one & other) + (one | other), one + other)
            self.assertEqual(-(one & other), -one | -other)
            self.assertEqual((one - other) + other, one)

    def test_great_numbers(self):
        great = 10 ** 60 - 1
        one = Lines(((0, 2, None, great, (great, great)), (0, 2, great + 1, None, (0, 1)), (1, 2, None, None, (-great, 0))))
        other = Lines(((0, 3, None, None, (0, great)), (1, 3, None, -great, (1, 0)), (1, 3, 1 - great, None, (2, 0)), (2, 3, None, None, (3, 0))))
        numbers = points(one.rows, other.rows, radius=4)
        for operator, by_numbers in PAIRS.values():
            self.assert_tells(operator(one, other), lambda number: by_numbers(one(number), other(number)), numbers)


class TestSingles(TestCase):
    def test_contrary(self):
        source = random.Random(93)
        for at in range(80):
            rows = rows_for(source, at)
            lines, slow = Lines(rows), SlowLines(rows)
            self.assert_tells(-lines, lambda number: -slow(number), slow.near(2))
            self.assert_tells(lines, slow, slow.near(1))
            self.assert_parted(-lines)

    def test_multiples(self):
        source = random.Random(94)
        for at in range(80):
            rows = rows_for(source, at)
            lines, slow = Lines(rows), SlowLines(rows)
            for factor in source.sample(NUMBERS, 3):
                self.assert_tells(lines * factor, lambda number: slow(number) * factor, slow.near(2))
                self.assert_parted(lines * factor)
            self.assert_tells(lines, slow, slow.near(1))

    def test_moved(self):
        source = random.Random(95)
        for at in range(80):
            rows = rows_for(source, at)
            lines, slow = Lines(rows), SlowLines(rows)
            for number in source.sample(MOVES, 3):
                near = slow.near(2) + [place - number for place in slow.near(2)]
                self.assert_tells(lines.moved(number), lambda place: slow(place + number), near)
                self.assert_parted(lines.moved(number))
                self.assertEqual(lines.moved(number).moved(-number), lines)
            self.assert_tells(lines, slow, slow.near(1))

    def test_moved_one_by_one(self):
        lines = Lines(tuple((rest, 12, None, None, (rest, 1)) for rest in range(12)))
        for number in range(-25, 26):
            moved = lines.moved(number)
            self.assertEqual([moved(place) for place in range(-30, 30)], [lines(place + number) for place in range(-30, 30)])


class TestOfResults(TestCase):
    def test_shape_of_the_document(self):
        source = random.Random(96)
        for at in range(40):
            one, other = rows_for(source, at), rows_for(source, at + 1)
            first, second = Lines(one), Lines(other)
            numbers = points(one, other, radius=1)
            result = (first | second) & (first + second)
            told = {n: min(max(first(n), second(n)), first(n) + second(n)) for n in numbers + SlowLines(result.rows).near(1)[::7]}
            self.assert_tells(result, told.get, list(told))
            self.assert_parted(result)

    def test_any_two(self):
        source = random.Random(97)
        for at in range(120):
            first, second, third = Lines(rows_for(source, at)), Lines(rows_for(source, at + 1)), Lines(random_rows(source, 5))
            left, told_left = once(source, first, second)
            right, told_right = once(source, second, third)
            operator, by_numbers = PAIRS[source.choice(list(PAIRS))]
            result = operator(left, right)
            numbers = points(left.rows[:30], right.rows[:30], radius=1)[::3] + SlowLines(result.rows).near(1)[::9]
            self.assert_tells(result, lambda number: by_numbers(told_left(number), told_right(number)), numbers)
            self.assert_parted(result)
            self.assert_tells(left, told_left, numbers[::4])

    def test_moved_contrary_and_multiples(self):
        source = random.Random(98)
        for at in range(60):
            first, second = Lines(rows_for(source, at)), Lines(rows_for(source, at + 1))
            result, told = once(source, first, second)
            move, factor = source.choice(MOVES), source.choice(NUMBERS)
            near = SlowLines(result.rows).near(0)[::3]
            self.assert_tells(-result, lambda number: -told(number), near)
            self.assert_tells(result * factor, lambda number: told(number) * factor, near)
            self.assert_tells(result.moved(move), lambda number: told(number + move), near + [place - move for place in near])


if __name__ == "__main__":
    unittest.main()
