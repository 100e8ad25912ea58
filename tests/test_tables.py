import copy
import random
import time
import unittest

from line_samples import PAIRS, crossings, cut_otherwise, has_integer
from program_samples import FAR, FULL_PROGRAMS, PROGRAMS, all_programs, any_program, bound_programs, full_program, pays, rest, steep_program, steps
from program_samples import when
from readings import SlowLines, slow_bottom, slow_runs, slow_top, slow_worth
from samples import deep_value, odd_values, with_part_replaced
from weandthey.bounds import MAX_PERIOD
from weandthey.lines import Lines
from weandthey.programs import program_error, turned, weight
from weandthey.tables import worth_holds, worth_of
from weandthey.worths import plan_of, worth

REACH = 120
ZERO = Lines(((0, 1, None, None, (0, 0)),))
LINES = Lines(((0, 3, None, 4, (1, 2)), (0, 3, 5, None, (0, 7)), (1, 3, None, None, (-2, 1)), (2, 3, None, None, (0, 0))))


def numbers_for(rows, reach=REACH):
    """Return integers around 0, near each bound, beside the places where two forms cross, and far out."""
    found = set(range(-reach, reach + 1)) | set(SlowLines(rows).near(3))
    for at in crossings(rows, rows):
        found.update(range(at - 2, at + 3))
    found.update((FAR, -FAR, FAR // 7, -FAR // 11))
    return sorted(found)


def laddered(row, factor=2):
    """Return rows that tell the same, by greater and greater numbers up to MAX_PERIOD."""
    left, by, low, high, form = row
    rows = []
    while by * factor <= MAX_PERIOD:
        rows += [(left + by * at, by * factor, low, high, form) for at in range(1, factor)]
        by *= factor
    rows.append((left, by, low, high, form))
    return [part for part in rows if low is None or high is None or part[0] in {n % part[1] for n in range(low, high + 1)}]


def single(number, by, told, slope=3):
    """Return a row about one integer, with any form through what is told there."""
    return (number % by, by, number, number, (slope, told - slope * number))


def with_single(rows, number, by, told):
    """Return the rows with one integer taken out and told by a row of its own."""
    out = [single(number, by, told)]
    for left, step, low, high, form in rows:
        if number % step != left or low is not None and number < low or high is not None and number > high:
            out.append((left, step, low, high, form))
            continue
        parts = [(left, step, low, number - 1), (left, step, number + 1, high)]
        out += [(*part, form) for part in parts if has_integer(*part)]
    return tuple(out)


class TestExample(unittest.TestCase):
    def test_example(self):
        program = (("they", (("pay", "n"),), (("pay", 3),)),)
        rows = ((0, 1, None, 2, (1, 0)), (0, 1, 3, None, (0, 3)))
        self.assertEqual(
            [worth_holds(program, rows), worth_holds(program, rows[:1]), worth_of(program)(-7), worth_holds(program, worth_of(program).rows)],
            [True, False, -7, True],
        )


class TestWorthOf(unittest.TestCase):
    def assert_worth(self, program, reach=REACH):
        before = copy.deepcopy(program)
        lines = worth_of(program)
        self.assertIs(type(lines), Lines)
        slow = SlowLines(lines.rows)
        for number in numbers_for(lines.rows, reach):
            told = worth(program, number)
            self.assertEqual(lines(number), told, (program, number))
            self.assertEqual(slow(number), told)
        self.assertEqual(Lines(lines.rows), lines)
        self.assertEqual(worth_of(program).rows, lines.rows)
        self.assertIs(worth_holds(program, lines.rows), True)
        self.assertEqual(program, before)

    def test_samples_are_programs(self):
        for word, program in PROGRAMS.items():
            self.assertIsNone(program_error(program), word)
        self.assertEqual(weight(PROGRAMS["weight"]), 30)

    def test_every_kind(self):
        for word, program in PROGRAMS.items():
            with self.subTest(word):
                self.assert_worth(program, 3 * REACH)

    def test_random_programs(self):
        source = random.Random(130)
        for _ in range(120):
            self.assert_worth(any_program(source), 40)

    def test_full_programs(self):
        source = random.Random(131)
        for _ in range(100):
            self.assert_worth(full_program(source), 40)

    def test_steep_programs(self):
        source = random.Random(143)
        for _ in range(40):
            program = steep_program(source)
            self.assertIsNone(program_error(program))
            self.assert_worth(program, 60)

    def test_against_all_runs(self):
        source = random.Random(132)
        for _ in range(60):
            program = any_program(source)
            lines = worth_of(program)
            for number in (0, source.randint(-99, 99), source.randint(-FAR, FAR)):
                self.assertEqual(lines(number), slow_worth(slow_runs(program, number)))

    def test_every_by_and_rest(self):
        for by in range(2, 7):
            for left in range(by):
                for factor in (-9, -1, 1, 2, 3, 4, 6, 9):
                    program = (when(rest(("plus", ("times", factor, "n"), 1), by, left), pays("n"), pays(0)),)
                    lines = worth_of(program)
                    for number in range(-20, 21):
                        self.assertEqual(lines(number), number if (factor * number + 1) % by == left else 0)

    def test_every_pair_of_bys(self):
        for one in range(2, 7):
            for other in range(2, 7):
                program = (when(rest("n", one, 1), pays(1), ()), when(rest(("times", -1, "n"), other, 1), pays(2), ()))
                lines = worth_of(program)
                for number in range(-70, 71):
                    self.assertEqual(lines(number), (number % one == 1) + 2 * (-number % other == 1))

    def test_bounds_and_crossings_far_out(self):
        grown = steps("a", 9, 99) * 8
        program = (*grown, ("they", pays("n"), pays("a")), when(("less", "n", ("times", -9, "a")), pays(1), ()))
        self.assertIsNone(program_error(program))
        bounds = SlowLines(worth_of(program).rows).bounds
        self.assertGreater(max(bounds), 10 ** 8)
        self.assertLess(min(bounds), -(10 ** 8))
        self.assert_worth(program)

    def test_exchanged_hands(self):
        source = random.Random(133)
        for _ in range(40):
            program = any_program(source)
            self.assertEqual(worth_of(turned(program)), -worth_of(program))


class TestAnswersOfWorthOf(unittest.TestCase):
    """Every question and operator of Lines is asked of what worth_of returns."""

    def test_questions(self):
        source = random.Random(134)
        for program in all_programs(source, 40):
            lines = worth_of(program)
            reach = 200 + max([abs(bound) for bound in SlowLines(lines.rows).bounds], default=0)
            if reach < 2000:
                told = {number: worth(program, number) for number in range(-reach - 130, reach + 131)}
                self.assertEqual(lines.top(), slow_top(lambda number: told[number], reach))
                self.assertEqual(lines.bottom(), slow_bottom(lambda number: told[number], reach))
                self.assertEqual(lines.count_from(3, -reach, reach), len([n for n in range(-reach, reach + 1) if told[n] >= 3]))
            else:
                self.assertEqual(lines.count_from(3, -50, 50), len([n for n in range(-50, 51) if lines(n) >= 3]))
            self.assertIsNone(lines.first_unlike(worth_of(program)))
            self.assertIs(lines.under(lines), True)

    def test_operators(self):
        source = random.Random(135)
        for _ in range(30):
            one, other = any_program(source), any_program(source)
            first, second = worth_of(one), worth_of(other)
            numbers = [source.randint(-99, 99) for _ in range(20)] + [FAR, -FAR]
            for operator, told in PAIRS.values():
                for beside, by_number in ((second, second), (LINES, LINES)):
                    lines = operator(first, beside)
                    for number in numbers:
                        self.assertEqual(lines(number), told(first(number), by_number(number)))
            factor, move = source.randint(-99, 99), source.choice([1, -60, FAR])
            for number in numbers:
                self.assertEqual((-first)(number), -first(number))
                self.assertEqual((first * factor)(number), factor * first(number))
                self.assertEqual(first.moved(move)(number), worth(one, number + move))
            mixed = (first | second) & (first + second)
            low = first & second
            for number in numbers:
                self.assertEqual(mixed(number), min(max(first(number), second(number)), first(number) + second(number)))
            self.assertIs(low.under(first) and low.under(second), True)
            self.assertEqual((first - second).first_unlike(ZERO), first.first_unlike(second))


def random_otherwise(source, rows):
    """Return rows with one thing otherwise; what they tell may be the same all the same."""
    rows = list(rows)
    at = source.randrange(len(rows))
    left, by, low, high, (slope, shift) = rows[at]
    amount = source.choice([-2, -1, 1, 2])
    changed = [
        (left, by, low, high, (slope + amount, shift)),
        (left, by, low, high, (slope, shift + amount)),
        (left, by, None if low is None else low + amount, high, (slope, shift)),
        (left, by, low, None if high is None else high + amount, (slope, shift)),
        (left, by, 0 if low is None else None, high, (slope, shift)),
        (left, by, low, 0 if high is None else None, (slope, shift)),
        ((left + amount) % by, by, low, high, (slope, shift)),
        (left, by + 1, low, high, (slope, shift)),
        (left + by, by * 2, low, high, (slope, shift)),
        (left, by, 7, 6, (slope, shift)),
    ]
    pick = source.randrange(len(changed) + 2)
    if pick < len(changed):
        rows[at] = changed[pick]
    else:
        rows[at:at + 1] = [rows[at]] * (2 * (pick - len(changed)))
    return tuple(rows)


def slow_holds(program, rows, reach):
    """Return whether rows whose bounds are within reach are parted and tell the worth."""
    lines = SlowLines(rows)
    for row in rows:
        if row[2] is not None and row[3] is not None and not any(n % row[1] == row[0] for n in range(row[2], min(row[3], row[2] + row[1]) + 1)):
            return False
    for number in [*range(-reach, reach + 1), *range(FAR, FAR + 420), *range(-FAR - 420, -FAR)]:
        about = lines.rows_about(number)
        if len(about) != 1 or about[0][4][0] * number + about[0][4][1] != worth(program, number):
            return False
    return True


class TestWorthHolds(unittest.TestCase):
    def assert_holds(self, wanted, program, value):
        before = copy.deepcopy(value)
        with self.subTest(str(value)[:70]):
            self.assertIs(worth_holds(program, value), wanted)
            self.assertEqual(value, before)
            self.assertEqual(str(value), str(before))

    def test_parted_otherwise(self):
        source = random.Random(136)
        for program in all_programs(source, 40):
            rows = worth_of(program).rows
            self.assert_holds(True, program, tuple(reversed(rows)))
            self.assert_holds(True, program, tuple(source.sample(rows, len(rows))))
            again = cut_otherwise(source, rows)
            self.assert_holds(True, program, again)
            at = source.randrange(len(again))
            left, by, low, high, form = again[at]
            self.assert_holds(False, program, again[:at] + again[at + 1:])
            self.assert_holds(False, program, again + again[at:at + 1])
            self.assert_holds(False, program, (*again[:at], (left, by, low, high, (form[0], form[1] + 1)), *again[at + 1:]))
            # Another slope through one integer is right only where the row is about no other.
            number = low if low is not None else -500
            number += (left - number) % by
            turned_round = (left, by, low, high, (form[0] + 1, form[1] - number))
            alone = low is not None and high is not None and number + by > high
            self.assert_holds(alone, program, (*again[:at], turned_round, *again[at + 1:]))

    def test_single_integers(self):
        source = random.Random(137)
        for program in all_programs(source, 30):
            rows = worth_of(program).rows
            for number in (0, source.randint(-60, 60), source.randint(-10 ** 59, 10 ** 59)):
                told = worth(program, number)
                for by in (1, 2, 60, 999983, MAX_PERIOD):
                    self.assert_holds(True, program, with_single(rows, number, by, told))
                    self.assert_holds(False, program, with_single(rows, number, by, told + 1))
                    self.assert_holds(False, program, with_single(rows, number, by, told) + (single(number, by, told),))
                self.assert_holds(False, program, rows + (single(number, 1, told),))
                self.assert_holds(False, program, with_single(rows, number, 1, told)[1:])
                self.assert_holds(False, program, (single(number, MAX_PERIOD + 1, told), *with_single(rows, number, 1, told)[1:]))

    def test_long_periods(self):
        source = random.Random(138)
        for program in all_programs(source, 10):
            rows = worth_of(program).rows
            endless = [at for at, row in enumerate(rows) if row[2] is None or row[3] is None]
            at = source.choice(endless)
            for factor in (2, 3, 10, 211):
                ladder = laddered(rows[at], factor)
                value = rows[:at] + tuple(ladder) + rows[at + 1:]
                self.assert_holds(True, program, value)
                wrong = source.randrange(len(ladder))
                left, by, low, high, (slope, shift) = ladder[wrong]
                for part in ((left, by, low, high, (slope, shift - 1)), (left, by, low, high, (slope - 1, shift)), ((left + 1) % by, by, low, high, (slope, shift))):
                    if part != ladder[wrong]:
                        self.assert_holds(False, program, rows[:at] + (*ladder[:wrong], part, *ladder[wrong + 1:]) + rows[at + 1:])
                self.assert_holds(False, program, rows[:at] + (*ladder[:wrong], *ladder[wrong + 1:]) + rows[at + 1:])
                self.assert_holds(False, program, value + (ladder[wrong],))

    def test_long_periods_without_a_common_multiple(self):
        program = (("they", pays("n"), pays(3)),)
        low, high = (0, 1, None, 3, (1, 0)), (1, 2, 4, None, (0, 3))
        evens = (0, 2, 4, None, (0, 3))
        value = (low, *laddered(high, 2), *laddered(evens, 3))
        self.assertGreater(len(value), 20)
        self.assert_holds(True, program, value)
        for at in range(len(value)):
            self.assert_holds(False, program, value[:at] + value[at + 1:])
            self.assert_holds(False, program, (*value[:at], (*value[at][:4], (0, 4)), *value[at + 1:]))

    def test_rows_over_several_parts(self):
        program = (("we", pays("n"), pays(0)), ("they", pays(5), pays(("minus", 9, "n"))))
        right = ((0, 1, None, 0, (0, 5)), (0, 1, 1, 4, (1, 5)), (0, 1, 5, None, (0, 9)))
        self.assert_holds(True, program, right)
        for value in (((0, 1, None, 4, (0, 5)), right[2]), (right[0], (0, 1, 1, None, (1, 5))), ((0, 1, None, None, (0, 9)),),
                      (right[0], (0, 1, 1, None, (0, 9))), ((0, 1, None, 4, (1, 5)), right[2]), (right[0], (0, 1, 1, 5, (1, 5)), (0, 1, 6, None, (0, 9)))):
            self.assert_holds(False, program, value)
        self.assert_holds(True, program, (right[0], (0, 1, 1, 3, (1, 5)), (0, 1, 4, None, (0, 9))))
        # One row over two rests that tell the same, and over two that do not.
        program = (when(rest("n", 6, 1), pays(1), (when(rest("n", 3, 1), pays(2), ()),)),)
        thirds = ((0, 3, None, None, (0, 0)), (2, 3, None, None, (0, 0)))
        self.assert_holds(True, program, (*thirds, (1, 6, None, None, (0, 1)), (4, 6, None, None, (0, 2))))
        self.assert_holds(False, program, (*thirds, (1, 3, None, None, (0, 1))))
        self.assert_holds(False, program, (*thirds, (1, 3, None, None, (0, 2))))

    def test_other_programs(self):
        source = random.Random(139)
        programs = all_programs(source, 20)
        for one in programs:
            other = source.choice(programs)
            first, second = worth_of(one), worth_of(other)
            self.assert_holds(first == second, one, second.rows)
            nearly = one + pays(source.choice([1, -1]))
            if not str(one).count("stop") and program_error(nearly) is None:
                self.assert_holds(False, one, worth_of(nearly).rows)
                self.assert_holds(False, nearly, first.rows)

    def test_one_thing_otherwise(self):
        source = random.Random(140)
        seen = {True: 0, False: 0}
        small = [program for program in PROGRAMS.values() if max([abs(n) for n in SlowLines(worth_of(program).rows).bounds], default=0) < 150]
        for _ in range(400):
            program = source.choice(small)
            rows = random_otherwise(source, cut_otherwise(source, worth_of(program).rows, 3))
            wanted = slow_holds(program, rows, 300)
            seen[wanted] += 1
            self.assert_holds(wanted, program, rows)
        self.assertGreater(min(seen.values()), 20)

    def test_values_of_every_kind(self):
        program = PROGRAMS["their choice"]
        rows = worth_of(program).rows
        values = odd_values() + [(value,) for value in odd_values()] + [(*rows, value) for value in odd_values()]
        values += [(rows[0], value, *rows[2:]) for value in odd_values()] + [list(rows), [*rows], {0: rows[0]}, (list(rows[0]), *rows[1:])]
        values += [(), (()), ((),), (rows,), program, str(rows), plan_of(program, 3, "we"), (rows[0], *rows[1:], ())]
        values += [deep_value(20, lambda inner: (inner,)), deep_value(20, lambda inner: (0, 1, None, None, inner)), ((),) * 4000]
        for at in range(5):
            values += [((*rows[0][:at], value, *rows[0][at + 1:]), *rows[1:]) for value in odd_values() if str(value) != str(rows[0][at])]
        for value in values:
            self.assert_holds(False, program, value)
        lines = worth_of(program)
        for value in (lines, (lines,), (*rows, lines), (lines, *rows)):
            self.assertIs(worth_holds(program, value), False)

    def test_bools_for_integers(self):
        program = pays(0)
        row = (0, 1, None, None, (0, 0))
        self.assert_holds(True, program, (row,))
        for value in ((False, *row[1:]), (0, True, *row[2:]), (*row[:4], (False, 0)), (*row[:4], (0, False)), (0, 1, False, None, (0, 0))):
            self.assert_holds(False, program, (value,))

    def test_parts_replaced(self):
        source = random.Random(141)
        for _ in range(600):
            program = any_program(source)
            rows = worth_of(program).rows
            value = with_part_replaced(source, rows)
            if value != rows and not isinstance(value, tuple):
                self.assert_holds(False, program, value)
            else:
                before = copy.deepcopy(value)
                self.assertIn(worth_holds(program, value), (True, False))
                self.assertEqual(value, before)


class TestTime(unittest.TestCase):
    def test_programs_at_the_bounds(self):
        source = random.Random(142)
        programs = bound_programs(source, 60)
        start = time.perf_counter()
        tables = [worth_of(program).rows for program in programs]
        made = time.perf_counter()
        held = [worth_holds(program, rows) for program, rows in zip(programs, tables)]
        checked = time.perf_counter()
        self.assertEqual(set(held), {True})
        self.assertLess((made - start) / len(programs), 0.05)
        self.assertLess((checked - made) / len(programs), 0.05)

    def test_wrong_rows(self):
        program = FULL_PROGRAMS[0]
        singles = tuple((at, MAX_PERIOD - at, at, at, (0, at)) for at in range(400))
        start = time.perf_counter()
        for value in (singles, ((0, 1, None, -1, (0, 0)), *singles, (0, 1, 400, None, (0, 0))), ((0, MAX_PERIOD, None, None, (0, 0)),) * 500):
            self.assertIs(worth_holds(program, value), False)
        self.assertLess(time.perf_counter() - start, 3)


if __name__ == "__main__":
    unittest.main()
