import copy
import itertools
import random
import time
import unittest

from program_samples import all_programs, any_program, bound_programs, less, pays, rest, when
from samples import STOP, random_program
from weandthey.gifts import fewest_gift, gifted
from weandthey.programs import each_statement, program_error
from weandthey.tables import worth_of
from weandthey.verdicts import lost


def theirs(program):
    """Return the places at which they choose."""
    return [place for place, _, statement in each_statement(program) if statement[0] == "they"]


def all_gifts(program):
    """Return all gifts in the order of their size, and in ascending order."""
    places = theirs(program)
    return [gift for many in range(len(places) + 1) for gift in itertools.combinations(places, many)]


def slow_gifted(program, gift):
    """Return the program with the gift: each "they" in its text is numbered by its place."""
    places = iter(range(100))

    def given(block):
        out = []
        for statement in block:
            word = "we" if next(places) in gift else statement[0]
            out.append((word, *[given(part) if is_block(statement, at) else part for at, part in enumerate(statement)][1:]))
        return tuple(out)

    def is_block(statement, at):
        return at >= {"if": 2, "we": 1, "they": 1, "repeat": 2}.get(statement[0], 9)
    return given(program)


def slow_fewest(program):
    return next((gift for gift in all_gifts(program) if lost(slow_gifted(program, gift)) is None), None)


def theirs_only(source):
    """Return a program in which the choices are theirs, with some of them within others."""
    while True:
        text = repr(random_program(source, lambda block: len(theirs(block)) > 0)).replace("'we'", "'they'")
        program = eval(text)
        if program_error(program) is None:
            return program


class TestExample(unittest.TestCase):
    def test_example(self):
        program = (("they", (("pay", "n"),), (("pay", ("times", -1, "n")),)), ("they", (("pay", -1),), ()))
        self.assertEqual([gifted(program, (3,))[1], fewest_gift(program), fewest_gift((("pay", -1),))], [('we', (('pay', -1),), ()), (0, 3), None])


class TestGifted(unittest.TestCase):
    def test_every_gift(self):
        source = random.Random(170)
        for at in range(200):
            program = theirs_only(source) if at % 2 else any_program(source)
            before = copy.deepcopy(program)
            for gift in all_gifts(program):
                given = gifted(program, gift)
                self.assertEqual(given, slow_gifted(program, gift))
                self.assertEqual(gifted(program, gift), given)
                self.assertIsNone(program_error(given))
                self.assertEqual(theirs(given), [place for place in theirs(program) if place not in gift])
            self.assertEqual(program, before)
            self.assertEqual(gifted(program, ()), program)

    def test_every_depth(self):
        program = (("pay", 1), ("they", (("we", (("they", (STOP,), (("they", (), pays(1)),)),), ()),), pays(2)), ("pay", 3))
        self.assertEqual(theirs(program), [1, 3, 5])
        self.assertEqual(gifted(program, (1,))[1][0], "we")
        self.assertEqual(gifted(program, (1,))[1][1:], program[1][1:])
        self.assertEqual(gifted(program, (3,))[1], ("they", (("we", (("we", (STOP,), (("they", (), pays(1)),)),), ()),), pays(2)))
        self.assertEqual(gifted(program, (5,))[1], ("they", (("we", (("they", (STOP,), (("we", (), pays(1)),)),), ()),), pays(2)))
        self.assertEqual(gifted(program, (1, 3, 5)), (("pay", 1), ("we", (("we", (("we", (STOP,), (("we", (), pays(1)),)),), ()),), pays(2)), ("pay", 3)))

    def test_in_repeats_and_tests(self):
        program = (("repeat", 2, (("they", pays("n"), ()),)), when(less("n", 0), (("they", (), ()),), (STOP,)), when(rest("n", 2, 0), (), (("they", (), (STOP,)),)))
        self.assertEqual(theirs(program), [1, 4, 7])
        self.assertEqual(gifted(program, (1, 7)), (
            ("repeat", 2, (("we", pays("n"), ()),)), when(less("n", 0), (("they", (), ()),), (STOP,)), when(rest("n", 2, 0), (), (("we", (), (STOP,)),))))

    def test_giving_more_is_never_worse(self):
        source = random.Random(171)
        for _ in range(60):
            program = theirs_only(source)
            gifts = all_gifts(program)
            one, other = source.choice(gifts), source.choice(gifts)
            more = tuple(sorted(set(one) | set(other)))
            self.assertIs(worth_of(gifted(program, one)).under(worth_of(gifted(program, more))), True)


class TestFewestGift(unittest.TestCase):
    def assert_fewest(self, program):
        before = copy.deepcopy(program)
        gift = fewest_gift(program)
        self.assertEqual(gift, slow_fewest(program))
        self.assertIn(type(gift), (tuple, type(None)))
        self.assertEqual(fewest_gift(program), gift)
        self.assertEqual(program, before)
        return gift

    def test_every_kind(self):
        source = random.Random(172)
        sizes = {}
        for at, program in enumerate(all_programs(source, 250) + [theirs_only(source) for _ in range(250)]):
            paid = program + pays(source.choice([0, 5, 99]))
            gift = self.assert_fewest(paid if at % 2 and program_error(paid) is None else program)
            sizes[None if gift is None else len(gift)] = sizes.get(None if gift is None else len(gift), 0) + 1
        self.assertGreater(min(sizes[size] for size in (None, 0, 1)), 20)

    def test_known_gifts(self):
        bad, mean = ("they", pays("n"), pays(("times", -1, "n"))), ("they", pays(-1), ())
        self.assertEqual(self.assert_fewest(()), ())
        self.assertEqual(self.assert_fewest(pays(-1)), None)
        self.assertEqual(self.assert_fewest((bad,)), (0,))
        self.assertEqual(self.assert_fewest((bad, bad)), (0,))
        self.assertEqual(self.assert_fewest((bad, mean, bad)), (0, 3))
        self.assertEqual(self.assert_fewest((mean,) * 4), (0, 2, 4, 6))
        self.assertEqual(self.assert_fewest((mean,) * 4 + pays(1)), (0, 2, 4))
        self.assertEqual(self.assert_fewest((mean,) * 4 + pays(2)), (0, 2))
        self.assertEqual(self.assert_fewest((mean,) * 4 + pays(3)), (0,))
        self.assertEqual(self.assert_fewest((mean,) * 4 + pays(4)), ())
        self.assertEqual(self.assert_fewest((("repeat", 4, (mean,)),)), (1,))
        self.assertEqual(self.assert_fewest((("repeat", 2, (mean, mean)),)), (1, 3))
        self.assertEqual(self.assert_fewest((("they", (mean,), (bad,)),)), (0, 1))
        self.assertEqual(self.assert_fewest((("they", pays(-1), (bad, ("pay", -1))),)), None)

    def test_the_first_of_several(self):
        choice = ("they", (), pays(-1))
        self.assertEqual(self.assert_fewest((("pay", 1), choice, choice)), (1,))
        # Either place alone would do, or both; only the second one does alone.
        self.assertEqual(self.assert_fewest((("they", pays(-1), pays(-1)), ("they", pays(-9), pays(5)))), (3,))
        two = (("they", pays(-2), (("they", pays(-3), ()),)), ("they", pays(2), pays(1)))
        self.assertEqual(self.assert_fewest(two), (0, 2))

    def test_only_far_out(self):
        grown = (("set", "a", 1), ("repeat", 8, (("set", "a", ("times", 9, ("times", 9, "a"))),)))
        self.assertEqual(self.assert_fewest(grown + (("they", pays(("minus", "a", "n")), ()),) * 2), (3, 5))

    def test_time(self):
        source = random.Random(173)
        programs = bound_programs(source, 40)
        # Where all choices are theirs, there are the most gifts.
        programs += [eval(repr(program).replace("'we'", "'they'")) for program in programs]
        start = time.perf_counter()
        for program in programs:
            fewest_gift(program)
        self.assertLess((time.perf_counter() - start) / len(programs), 0.2)


if __name__ == "__main__":
    unittest.main()
