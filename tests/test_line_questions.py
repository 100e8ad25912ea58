import random
import unittest

from line_samples import GREAT, cut_otherwise, flat_rows, once, random_form, random_rows
from readings import SlowLines, input_order, slow_bottom, slow_top
from samples import odd_values
from weandthey.lines import Lines

# All bounds in these tests are within 40 and all lines cross within REACH, unless they are moved.
REACH = 400
STRETCH = input_order(range(-REACH, REACH + 1))


def line(slope, shift):
    return Lines(((0, 1, None, None, (slope, shift)),))


def pieces(*rows):
    return Lines(tuple((0, 1, *row) for row in rows))


def slow_first(one, other, differs):
    """Return the first number of the stretch on which a question about what both tell is answered by yes."""
    return next((number for number in STRETCH if differs(one(number), other(number))), None)


def unlike(one, other):
    return one != other


def more(one, other):
    return one > other


def like(source, rows):
    """Return rows that tell nearly the same: cut otherwise, and perhaps with other forms in few rows."""
    rows = list(cut_otherwise(source, rows, 5))
    for _ in range(source.randrange(3)):
        at = source.randrange(len(rows))
        slope, shift = rows[at][4]
        rows[at] = (*rows[at][:4], source.choice([(slope, shift + 1), (slope, shift - 1), random_form(source)]))
    return tuple(rows)


class TestComparing(unittest.TestCase):
    def assert_compared(self, one, other):
        """Assert all answers about two Lines that are told apart within the stretch, if at all."""
        first_unlike = slow_first(one, other, unlike)
        first_above = slow_first(one, other, more)
        self.assertEqual(one.first_unlike(other), first_unlike)
        self.assertEqual(other.first_unlike(one), first_unlike)
        self.assertEqual(one.first_above(other), first_above)
        self.assertIs(one == other, first_unlike is None)
        self.assertIs(one != other, first_unlike is not None)
        self.assertIs(one.under(other), first_above is None)

    def test_random_lines(self):
        source = random.Random(101)
        for _ in range(120):
            one, other = random_rows(source), random_rows(source)
            self.assert_compared(Lines(one), Lines(other))

    def test_nearly_the_same(self):
        source = random.Random(102)
        for _ in range(150):
            rows = random_rows(source, 8)
            one, other = Lines(rows), Lines(like(source, rows))
            self.assert_compared(one, other)
            self.assert_compared(other, one)

    def test_cut_otherwise(self):
        source = random.Random(103)
        for _ in range(120):
            rows = random_rows(source)
            one, other = Lines(rows), Lines(cut_otherwise(source, rows))
            self.assertIs(one == other, True)
            self.assertIs(one != other, False)
            self.assertIs(one.under(other) and other.under(one), True)
            self.assertIsNone(one.first_unlike(other))
            self.assertIsNone(one.first_above(other))
            self.assertEqual(one.top(), other.top())
            self.assertEqual(one.bottom(), other.bottom())

    def test_results_of_operators(self):
        source = random.Random(104)
        for _ in range(60):
            one, other = Lines(random_rows(source, 6)), Lines(random_rows(source, 6))
            low, high, total = one & other, one | other, one + other
            self.assert_compared(low, high)
            self.assert_compared(high, one)
            self.assert_compared(one, high)
            self.assert_compared(total, high)
            self.assertIs(low.under(one) and one.under(high), True)
            self.assertIs(low.under(high & total), low.under(total))

    def test_same_told_by_other_forms(self):
        one = pieces((None, 0, (0, 5)), (1, 1, (3, -3)), (2, None, (1, 0)))
        other = pieces((None, 0, (0, 5)), (1, 1, (0, 0)), (2, 2, (5, -8)), (3, None, (1, 0)))
        self.assertTrue(one == other)
        crossing = pieces((None, 4, (0, 5)), (5, None, (1, 0)))
        self.assertTrue(crossing == pieces((None, 5, (0, 5)), (6, None, (1, 0))))
        self.assertTrue(crossing == line(0, 5) | line(1, 0))
        self.assertFalse(crossing == pieces((None, 3, (0, 5)), (4, None, (1, 0))))

    def test_order_of_inputs(self):
        zero = line(0, 0)
        for places, first in (((3, -3), 3), ((-3, 4), -3), ((-3, -5), -3), ((5, 3), 3), ((0, 1), 0), ((1, -1), 1), ((-1, 2), -1), ((60, -60), 60)):
            rows = []
            low = None
            for place in sorted(places):
                rows += [(low, place - 1, (0, 0)), (place, place, (0, 7))]
                low = place + 1
            rows = [row for row in rows if row[0] is None or row[0] <= row[1]] + [(low, None, (0, 0))]
            lines = pieces(*rows)
            self.assertEqual(lines.first_unlike(zero), first)
            self.assertEqual(lines.first_above(zero), first)
            self.assertEqual(zero.first_above(lines), None)
            self.assertEqual(lines.top(), (7, first))

    def test_unlike_on_one_integer_far_out(self):
        source = random.Random(105)
        for far in (GREAT, -GREAT, 10 ** 60 - 1, 12345678901234567, -61):
            for by in (1, 7 - 1, 60):
                rows = [(rest, by, None, None, random_form(source)) for rest in range(by)]
                at = far % by
                slope, shift = rows[at][4]
                told = slope * far + shift
                parts = [(at, by, None, far - 1, rows[at][4]), (at, by, far, far, (0, told + 1)), (at, by, far + 1, None, rows[at][4])]
                one, other = Lines(tuple(rows)), Lines(tuple(rows[:at] + parts + rows[at + 1:]))
                self.assertIs(one == other, False)
                self.assertIs(one != other, True)
                self.assertEqual((one.first_unlike(other), other.first_unlike(one)), (far, far))
                self.assertEqual((one.first_above(other), other.first_above(one)), (None, far))
                self.assertEqual((one.under(other), other.under(one)), (True, False))
                self.assertEqual((other - one).top(), (1, far))

    def test_crossing_far_out(self):
        one, other = line(1, 0), line(2, -GREAT)
        self.assertEqual(one.first_unlike(other), 0)
        self.assertEqual(other.first_above(one), GREAT + 1)
        self.assertEqual(other.first_above(one + line(0, 1)), GREAT + 2)
        self.assertEqual(one.first_above(other), 0)
        self.assertEqual(line(1, 0).first_above(line(0, GREAT)), GREAT + 1)
        self.assertEqual(line(-1, 0).first_above(line(0, GREAT)), -GREAT - 1)
        self.assertEqual(line(3, 0).first_above(line(0, GREAT)), GREAT // 3 + 1)
        self.assertEqual((line(1, 0) | line(-1, 0)).first_above(line(0, GREAT)), GREAT + 1)

    def test_crossing_in_one_rest(self):
        one = Lines(((0, 3, None, None, (1, 0)), (1, 3, None, None, (0, 0)), (2, 3, None, None, (-1, 0))))
        level = line(0, 100)
        self.assertEqual(one.first_above(level), 102)
        self.assertEqual((-one).first_above(level), 101)
        self.assertEqual(one.first_above(line(0, 102)), -103)
        self.assertEqual(one.first_unlike(line(0, 0)), -1)
        self.assertEqual(line(0, 0).first_unlike(one), -1)

    def test_moved_far_out(self):
        source = random.Random(106)
        for far in (GREAT, -GREAT, 10 ** 60 - 1):
            for _ in range(25):
                rows = random_rows(source, 6)
                one, other = Lines(rows).moved(far), Lines(like(source, rows)).moved(far)
                numbers = input_order([*range(-99, 100), *range(-far - REACH, -far + REACH)])
                self.assertEqual(one.first_unlike(other), next((n for n in numbers if one(n) != other(n)), None))
                self.assertEqual(one.first_above(other), next((n for n in numbers if one(n) > other(n)), None))

    def test_values_that_are_no_lines(self):
        lines = line(0, 0)
        for value in odd_values() + [(), lines.rows, lines.columns, (lines,), [lines], Lines, lines.top(), lines.top]:
            with self.subTest(str(value)[:60]):
                self.assertIs(lines == value, False)
                self.assertIs(value == lines, False)
                self.assertIs(lines != value, True)
                self.assertIs(value != lines, True)

    def test_same_object(self):
        lines = line(3, 4)
        self.assertIs(lines == lines, True)
        self.assertIs(lines != lines, False)
        self.assertIs(lines.under(lines), True)


class TestTopAndBottom(unittest.TestCase):
    def assert_ends(self, lines):
        self.assertEqual(lines.top(), slow_top(lines, REACH))
        self.assertEqual(lines.bottom(), slow_bottom(lines, REACH))
        for found in (lines.top(), lines.bottom()):
            if found is not None:
                self.assertEqual([type(found), type(found[0]), type(found[1])], [tuple, int, int])

    def test_random_lines(self):
        source = random.Random(107)
        seen = set()
        for at in range(300):
            lines = Lines(flat_rows(source) if at % 3 else random_rows(source, source.choice([1, 2, 3, 5, 12])))
            self.assert_ends(lines)
            seen.add((lines.top() is None, lines.bottom() is None))
        self.assertEqual(len(seen), 4)

    def test_results_of_operators(self):
        source = random.Random(108)
        for at in range(100):
            one, other = Lines(flat_rows(source, 6)), Lines(flat_rows(source, 6) if at % 2 else random_rows(source, 6))
            for lines in (one & other, one | other, one + other, one - other, one.moved(source.randint(-30, 30))):
                self.assert_ends(lines)

    def test_without_an_end(self):
        self.assertEqual([line(1, 0).top(), line(1, 0).bottom(), line(-1, 0).top(), line(-1, 0).bottom()], [None] * 4)
        rising = pieces((None, 0, (0, 3)), (1, None, (1, 5)))
        self.assertEqual([rising.top(), rising.bottom()], [None, (3, 0)])
        falling = pieces((None, 0, (1, 3)), (1, None, (0, 3)))
        self.assertEqual([falling.top(), falling.bottom()], [(3, 0), None])
        hill = line(1, 7) & line(-1, 7)
        self.assertEqual([hill.top(), hill.bottom()], [(7, 0), None])
        self.assertEqual([(-hill).top(), (-hill).bottom()], [None, (-7, 0)])
        one_rest = Lines(((0, 2, None, None, (0, 1)), (1, 2, None, 5, (0, 0)), (1, 2, 6, None, (0, 9)))) + line(0, 0)
        self.assertEqual([one_rest.top(), one_rest.bottom()], [(9, 7), (0, 1)])
        one_rest = Lines(((0, 2, None, None, (0, 1)), (1, 4, None, None, (1, 0)), (3, 4, None, None, (0, 0))))
        self.assertEqual([one_rest.top(), one_rest.bottom()], [None, None])

    def test_told_on_several_integers(self):
        self.assertEqual([line(0, 4).top(), line(0, 4).bottom()], [(4, 0), (4, 0)])
        lines = Lines(((0, 6, None, -1, (0, 9)), (0, 6, 0, 17, (0, 1)), (0, 6, 18, None, (0, 9)), (1, 2, None, None, (0, 2)), (2, 6, None, None, (0, 2)), (4, 6, None, None, (0, 2))))
        self.assertEqual([lines.top(), lines.bottom()], [(9, -6), (1, 0)])
        lines = pieces((None, -6, (0, 9)), (-5, 4, (0, 1)), (5, 5, (1, 4)), (6, 6, (0, 9)), (7, None, (0, 1)))
        self.assertEqual([lines.top(), lines.bottom()], [(9, 5), (1, 0)])
        lines = pieces((None, -6, (0, 9)), (-5, 5, (0, 1)), (6, None, (0, 9)))
        self.assertEqual(lines.top(), (9, 6))
        lines = pieces((None, -6, (0, 9)), (-5, 6, (0, 1)), (7, None, (0, 9)))
        self.assertEqual(lines.top(), (9, -6))
        lines = pieces((None, -1, (0, 1)), (0, 9, (1, 0)), (10, 10, (0, 9)), (11, None, (0, 0)))
        self.assertEqual(lines.top(), (9, 9))

    def test_far_out(self):
        for far in (GREAT, -GREAT, 10 ** 60 - 1):
            lines = pieces((None, far - 1, (0, 0)), (far, far, (0, 1)), (far + 1, None, (0, 0)))
            self.assertEqual([lines.top(), lines.bottom()], [(1, far), (0, 0)])
            self.assertEqual((lines * GREAT).top(), (GREAT, far))
            tent = line(1, -far) & line(-1, far)
            self.assertEqual([tent.top(), tent.bottom()], [(0, far), None])

    def test_moved_far_out(self):
        source = random.Random(109)
        for far in (GREAT, -GREAT, 10 ** 60 - 1):
            for _ in range(40):
                lines = Lines(flat_rows(source, 8))
                moved = lines.moved(far)
                numbers = input_order([*range(-99, 100), *range(-far - REACH, -far + REACH)])
                best, least = lines.top()[0], lines.bottom()[0]
                self.assertEqual(moved.top(), (best, next(n for n in numbers if moved(n) == best)))
                self.assertEqual(moved.bottom(), (least, next(n for n in numbers if moved(n) == least)))


class TestCountFrom(unittest.TestCase):
    def test_against_counting(self):
        source = random.Random(110)
        for at in range(250):
            rows = flat_rows(source) if at % 2 else random_rows(source)
            lines, slow = Lines(rows), SlowLines(rows)
            told = {number: slow(number) for number in range(-150, 151)}
            for _ in range(12):
                low, high = source.randint(-150, 150), source.randint(-150, 150)
                value = source.choice([source.randint(-60, 60), told[source.randint(-150, 150)]])
                wanted = len([number for number in range(low, high + 1) if told[number] >= value])
                self.assertEqual(lines.count_from(value, low, high), wanted)
                self.assertIs(type(lines.count_from(value, low, high)), int)

    def test_results_of_operators(self):
        source = random.Random(111)
        for _ in range(60):
            lines, told = once(source, Lines(random_rows(source)), Lines(random_rows(source)))
            for _ in range(4):
                low, value = source.randint(-150, 150), source.randint(-80, 80)
                high = low + source.randint(-5, 150)
                wanted = len([number for number in range(low, high + 1) if told(number) >= value])
                self.assertEqual(lines.count_from(value, low, high), wanted)

    def test_low_greater_than_high(self):
        for lines in (line(0, 5), line(1, 0), line(-1, 0), Lines(random_rows(random.Random(112)))):
            for low, high in ((1, 0), (0, -1), (60, 0), (10 ** 60 - 1, -(10 ** 60) + 1), (GREAT, GREAT - 1)):
                for value in (0, -(10 ** 60) + 1, 10 ** 60 - 1):
                    self.assertEqual(lines.count_from(value, low, high), 0)

    def test_one_integer(self):
        lines = line(2, 1)
        for number in (0, 5, -5, GREAT, -GREAT):
            self.assertEqual(lines.count_from(2 * number + 1, number, number), 1)
            self.assertEqual(lines.count_from(2 * number + 2, number, number), 0)

    def test_great_stretches(self):
        great = 10 ** 60 - 1
        self.assertEqual(line(0, 5).count_from(5, -great, great), 2 * great + 1)
        self.assertEqual(line(0, 5).count_from(6, -great, great), 0)
        for value in (0, 7, -7, great, -great, GREAT):
            self.assertEqual(line(1, 0).count_from(value, -great, great), great - value + 1)
            self.assertEqual(line(-1, 0).count_from(value, -great, great), great - value + 1)
            self.assertEqual(line(3, 0).count_from(value, -great, great), great + (-value) // 3 + 1)
        thirds = Lines(((0, 3, None, None, (1, 0)), (1, 3, None, None, (0, 0)), (2, 3, None, None, (-1, 0))))
        self.assertEqual(great % 3, 0)
        many = great // 3
        self.assertEqual(thirds.count_from(1, -great, great), many + many)
        self.assertEqual(thirds.count_from(0, -great, great), (many + 1) + 2 * many + many)
        self.assertEqual(thirds.count_from(great, -great, great), 1)

    def test_parts_of_great_stretches(self):
        source = random.Random(113)
        for _ in range(80):
            lines = Lines(random_rows(source))
            low, middle, high = sorted(source.randint(-(10 ** 59), 10 ** 59) for _ in range(3))
            for value in (source.randint(-99, 99), source.randint(-(10 ** 59), 10 ** 59)):
                whole = lines.count_from(value, low, high)
                self.assertEqual(whole, lines.count_from(value, low, middle) + lines.count_from(value, middle + 1, high))
                # What is less than value is the contrary of what is at least 1 - value of the contrary.
                self.assertEqual(whole + (-lines).count_from(1 - value, low, high), high - low + 1)

    def test_moved_far_out(self):
        source = random.Random(114)
        for far in (GREAT, -GREAT, 10 ** 60 - 200):
            for _ in range(30):
                lines = Lines(random_rows(source))
                low, value = source.randint(-99, 99), source.randint(-60, 60)
                high = low + source.randint(0, 99)
                wanted = len([number for number in range(low, high + 1) if lines(number) >= value])
                self.assertEqual(lines.moved(far).count_from(value, low - far, high - far), wanted)


if __name__ == "__main__":
    unittest.main()
