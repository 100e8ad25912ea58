import copy
import random
import time
import unittest

from program_samples import all_programs, any_program, bound_programs, less, negated, pays, rest, steep_program, steps, when
from readings import input_order
from samples import STOP
from weandthey.programs import program_error, turned
from weandthey.tables import worth_of
from weandthey.verdicts import above, alike, lost
from weandthey.worths import worth

STRETCH = input_order(range(-300, 301))


def grown(name, factor, times):
    """Return a block behind which a name is far out: multiplied again and again."""
    return (("set", name, 1), ("repeat", times, (("set", name, ("times", factor, ("times", 9, name))),)))


def only_on(number_name, block, no=()):
    """Return a statement that executes a block only where n is the value of a name."""
    return when(less("n", number_name), no, (when(less(number_name, "n"), no, block),))


def slow_first(differs):
    """Return the first number of a stretch of which something is so, or None."""
    return next((number for number in STRETCH if differs(number)), None)


def ahead_of(number):
    """Return a few numbers that come ahead of this one in the order of inputs, the last ones among them."""
    size = abs(number)
    last = [-(size - 1), size - 1] if number > 0 else [size, -(size - 1)]
    return last + [0, size // 2, -(size // 2), size // 3]


class TestExample(unittest.TestCase):
    def test_example(self):
        one, other = (("they", (("pay", "n"),), (("pay", 3),)),), (("pay", 3),)
        self.assertEqual([lost(one), lost(other), alike(one, other), above(one, other), above(other, one)], [-1, None, 0, None, 0])


class TestVerdicts(unittest.TestCase):
    def assert_first(self, found, differs):
        """Assert that found is the first number of which something is so, as far as the stretch tells it."""
        wanted = slow_first(differs)
        if wanted is not None or found is None:
            self.assertEqual(found, wanted)
        else:
            self.assertGreater(abs(found), 300)
            self.assertTrue(differs(found))
            for number in ahead_of(found):
                self.assertFalse(differs(number))
        self.assertIn(type(found), (int, type(None)))

    def assert_lost(self, program):
        before = copy.deepcopy(program)
        found = lost(program)
        self.assert_first(found, lambda number: worth(program, number) < 0)
        self.assertEqual(lost(program), found)
        self.assertEqual(program, before)

    def assert_compared(self, one, other):
        told = {number: (worth(one, number), worth(other, number)) for number in STRETCH}
        both = lambda number: told[number] if number in told else (worth(one, number), worth(other, number))
        self.assert_first(alike(one, other), lambda number: both(number)[0] != both(number)[1])
        self.assert_first(alike(other, one), lambda number: both(number)[0] != both(number)[1])
        self.assert_first(above(one, other), lambda number: both(number)[0] > both(number)[1])
        self.assert_first(above(other, one), lambda number: both(number)[0] < both(number)[1])
        self.assertEqual((alike(one, other), above(one, other)), (alike(one, other), above(one, other)))

    def test_lost_of_every_kind(self):
        source = random.Random(150)
        for program in all_programs(source, 250) + [steep_program(source) for _ in range(40)]:
            self.assert_lost(program)
            self.assertEqual(lost(program), lost(program + (STOP,)) if program_error(program + (STOP,)) is None else lost(program))

    def test_two_programs_of_every_kind(self):
        source = random.Random(151)
        for _ in range(120):
            self.assert_compared(any_program(source), any_program(source))

    def test_itself_and_the_same_written_otherwise(self):
        source = random.Random(152)
        for _ in range(80):
            program = any_program(source)
            self.assertIsNone(alike(program, program))
            self.assertIsNone(above(program, program))
            for other in (program + (STOP,), program + pays(0), pays(5, -5) + program, (("repeat", 1, program),), (when(less(0, 1), program, (STOP,)),),
                          (("set", "unused", "n"), *program), (when(rest(0, 2, 1), pays(9), program),), program + (STOP, ("pay", 99))):
                if program_error(other) is None:
                    self.assertIsNone(alike(program, other))
                    self.assertIsNone(alike(other, program))
                    self.assertIsNone(above(program, other))
                    self.assertIsNone(above(other, program))
                    self.assertEqual(lost(other), lost(program))
        one = (("they", pays("n"), pays(3)),)
        for other in ((("they", pays(3), pays("n")),), (when(less("n", 3), pays("n"), pays(3)),), (when(negated(less("n", 4)), pays(3), pays("n")),),
                      (when(less(3, "n"), pays(3), pays("n")),), (("they", pays(("minus", "n", 3)), ()), ("pay", 3))):
            self.assertIsNone(alike(one, other))
            self.assertIsNone(above(one, other))
            self.assertIsNone(above(other, one))

    def test_on_one_integer_near_0(self):
        for number in (0, 1, -1, 2, -2, 3, 30, -30, 98, -99):
            block = (("set", "a", number),)
            self.assertEqual(lost(block + (only_on("a", pays(-1)),)), number)
            self.assertIsNone(lost(block + (only_on("a", ()),)))
            one, other = pays(7, "n"), block + (only_on("a", pays(8, "n"), pays(7, "n")),)
            self.assertEqual([alike(one, other), alike(other, one), above(one, other), above(other, one)], [number, number, None, number])

    def test_on_one_integer_far_out(self):
        for factor, times in ((9, 8), (-9, 7), (8, 8), (-7, 3)):
            block = grown("a", factor, times)
            number = (factor * 9) ** times
            program = block + (only_on("a", pays(-1)),)
            self.assertIsNone(program_error(program))
            self.assertEqual(lost(program), number)
            one, other = block + pays("a"), block + (only_on("a", pays("a", -1), pays("a")),)
            self.assertEqual([alike(one, other), alike(other, one), above(one, other), above(other, one)], [number, number, number, None])

    def test_on_one_side_far_out(self):
        for times in (3, 8):
            far = 81 ** times
            block = grown("a", 9, times)
            self.assertEqual(lost(block + pays(("minus", "a", "n"))), far + 1)
            self.assertEqual(lost(block + pays(("plus", "a", "n"))), -far - 1)
            self.assertEqual(lost(block + (("they", pays(("plus", "a", "n")), pays(("minus", "a", "n"))),)), far + 1)
            self.assertEqual(lost(block + (("they", pays(("plus", "a", "n")), pays(("minus", ("times", 2, "a"), "n"))),)), -far - 1)
            self.assertEqual(above(pays("n"), block + pays("a")), far + 1)
            self.assertEqual(above(pays(("times", -1, "n")), block + pays("a")), -far - 1)
            self.assertEqual(alike(block + (("we", pays("n"), pays("a")),), block + pays("a")), far + 1)
            self.assertEqual(alike(block + (("they", pays("n"), pays(("times", -1, "a"))),), block + pays(("times", -1, "a"))), -far - 1)

    def test_on_every_second_third_and_sixth_integer(self):
        for by, first in ((2, (0, 1)), (3, (0, 1, -1)), (6, (0, 1, 2, 3, -2, -1))):
            for left in range(by):
                program = (when(rest("n", by, left), pays(-1), pays(5)),)
                self.assertEqual(lost(program), first[left])
                self.assertEqual(alike(program, pays(5)), first[left])
                self.assertEqual(above(pays(5), program), first[left])
                self.assertIsNone(above(program, pays(5)))
        thirds = (when(rest("n", 2, 1), (when(rest("n", 3, 2), pays(-1), pays(1)),), pays(1)),)
        self.assertEqual(lost(thirds), -1)
        both = (when(rest("n", 5, 4), (when(rest("n", 6, 3), pays(-1), ()),), ()),)
        self.assertEqual(lost(both), 9)
        self.assertEqual(lost((when(less("n", 50), (), both),)), 69)
        self.assertEqual(lost((when(less(-50, "n"), (), both),)), -51)

    def test_order_of_inputs(self):
        self.assertEqual(lost(pays(("minus", 0, "n"))), 1)
        self.assertEqual(lost(pays("n")), -1)
        self.assertEqual(lost((("they", pays(("plus", "n", 6)), pays(("minus", 6, "n"))),)), 7)
        self.assertEqual(lost((("they", pays(("plus", "n", 5)), pays(("minus", 6, "n"))),)), -6)
        self.assertEqual(lost((("they", pays(("plus", "n", 6)), pays(("minus", 5, "n"))),)), 6)
        self.assertEqual(alike((("we", pays("n"), pays(4)),), (("we", pays(("times", -1, "n")), pays(4)),)), 5)
        self.assertEqual(lost(pays(-1)), 0)

    def test_nowhere(self):
        for program in ((), pays(0), (STOP, ("pay", -1)), (("we", pays("n"), pays(("times", -1, "n"))),), (("they", pays(1), ()),),
                        (when(less("n", 0), pays(("times", -9, "n")), pays("n")),), (when(less("n", "n"), pays(-1), ()),),
                        (when(rest(("times", 2, "n"), 4, 1), pays(-1), ()),)):
            self.assertIsNone(lost(program))

    def test_far_differences_that_a_stretch_does_not_show(self):
        one = (*steps("a", 9, 99) * 8, when(less("n", "a"), pays(1), pays(0)))
        self.assertEqual(alike(one, pays(1)), worth((*steps("a", 9, 99) * 8, ("pay", "a")), 0))
        self.assertIsNone(above(one, pays(1)))

    def test_by_lines(self):
        source = random.Random(153)
        for _ in range(100):
            one, other = any_program(source), any_program(source)
            self.assertEqual(alike(one, other) is None, worth_of(one) == worth_of(other))
            self.assertEqual(above(one, other) is None, worth_of(one).under(worth_of(other)))
            self.assertEqual(lost(one), above((), one))
            self.assertEqual(lost(turned(one)), above(one, ()))


class TestTime(unittest.TestCase):
    def test_programs_at_the_bounds(self):
        programs = bound_programs(random.Random(154), 60)
        start = time.perf_counter()
        found = [lost(program) for program in programs]
        self.assertLess((time.perf_counter() - start) / len(programs), 0.05)
        for program, number in zip(programs, found):
            self.assertTrue(number is None or worth(program, number) < 0)


if __name__ == "__main__":
    unittest.main()
