import copy
import itertools
import random
import types
import unittest

from readings import choices_in, slow_run, slow_runs
from samples import EVEN, FULL, SMALL, STOP, has_word, nested, random_program
from weandthey.programs import program_error, turned
from weandthey.runs import each_run, run

NUMBERS = [0, 1, -1, 2, -2, 3, 5, -6, 7, 12, -13, 98, 99, 100, -99, -100, 1000, -1001]
LONG = [10 ** 59, -(10 ** 59), 10 ** 60 - 1, -(10 ** 60) + 1, 123456789 * 10 ** 45 + 7]
TURNS = [turns for many in range(6) for turns in itertools.product((0, 1), repeat=many)]


def pays(*amounts):
    return tuple(("pay", amount) for amount in amounts)


def told(program, number, turns=()):
    """Return the total of a run alone."""
    assert program_error(program) is None, program
    return run(program, number, turns)[0]


def value(expression, number, *ahead):
    """Return the value of an expression behind some statements, as a run pays it."""
    return told((*ahead, ("pay", expression)), number)


class TestExample(unittest.TestCase):
    def test_example(self):
        program = (("they", (("pay", "n"),), (("pay", 3), ("we", (), (("pay", 1), ("stop",))))), ("pay", 10))
        self.assertEqual(
            [run(program, 5, ()), run(program, 5, (1, 1, 0)), list(each_run(program, 0))],
            [(15, (0,), ('they',)), (4, (1, 1), ('they', 'we')), [(10, (0,), ('they',)), (13, (1, 0), ('they', 'we')), (4, (1, 1), ('they', 'we'))]],
        )


class TestExpressions(unittest.TestCase):
    def test_integers_and_names(self):
        for number in NUMBERS + LONG:
            self.assertEqual(value("n", number), number)
            for constant in (-99, -98, -1, 0, 1, 99):
                self.assertEqual(value(constant, number), constant)

    def test_names_that_were_never_set_are_0(self):
        for name in ("a", "m", "n0", "nn", "zzzzzzzz", "less", "plus", "times"):
            self.assertEqual(value(name, 7), 0)
            self.assertEqual(value(("plus", name, 5), 7), 5)

    def test_signs(self):
        for number in NUMBERS + LONG:
            self.assertEqual(value(("plus", "n", 99), number), number + 99)
            self.assertEqual(value(("minus", "n", 99), number), number - 99)
            self.assertEqual(value(("minus", -99, "n"), number), -99 - number)
            for factor in range(-9, 10):
                self.assertEqual(value(("times", factor, "n"), number), factor * number)

    def test_greatest_depth(self):
        for number in NUMBERS + LONG:
            self.assertEqual(value(("times", 9, ("times", -9, "n")), number), -81 * number)
            self.assertEqual(value(("plus", ("plus", "n", 1), 1), number), number + 2)
            self.assertEqual(value(("minus", ("times", 9, "n"), ("minus", -99, "n")), number), 10 * number + 99)
            self.assertEqual(value(("minus", ("minus", 1, "n"), ("plus", "n", "n")), number), 1 - 3 * number)
            self.assertEqual(value(("times", -9, ("minus", 99, -99)), number), -1782)


class TestStatements(unittest.TestCase):
    def test_nothing(self):
        self.assertEqual(run((), 5, ()), (0, (), ()))
        self.assertEqual(run((STOP,), 5, (1, 1)), (0, (), ()))

    def test_set(self):
        self.assertEqual(value("a", 5, ("set", "a", ("plus", "n", 1))), 6)
        self.assertEqual(value("a", 5, ("set", "a", 1), ("set", "a", ("plus", "a", "a")), ("set", "a", ("plus", "a", "a"))), 4)
        self.assertEqual(value("b", 5, ("set", "a", "n"), ("set", "b", "a"), ("set", "a", 0)), 5)

    def test_n_set_anew(self):
        self.assertEqual(value("n", 5, ("set", "n", 2)), 2)
        self.assertEqual(value("n", 5, ("set", "n", ("times", 2, "n")), ("set", "n", ("plus", "n", 1))), 11)
        self.assertEqual(told((("repeat", 3, (("set", "n", ("times", -9, "n")), ("pay", "n"))),), 1), -9 + 81 - 729)

    def test_pay(self):
        self.assertEqual(told(pays(3, "n", -99, ("times", -1, "n"), 4), 8), -92)
        self.assertEqual(told(pays("n", "n"), 10 ** 60 - 1), 2 * (10 ** 60 - 1))

    def test_less(self):
        program = (("if", ("less", "n", 3), pays(1), pays(2)),)
        self.assertEqual([told(program, n) for n in (-10 ** 59, 2, 3, 4, 10 ** 59)], [1, 1, 2, 2, 2])
        program = (("if", ("less", -3, ("times", 2, "n")), pays(1), pays(2)),)
        self.assertEqual([told(program, n) for n in (-3, -2, -1, 0)], [2, 2, 1, 1])
        self.assertEqual(told((("if", ("less", "a", "b"), pays(1), pays(2)),), 1), 2)

    def test_rest(self):
        for by in range(2, 7):
            for rest in range(by):
                program = (("if", ("rest", "n", by, rest), pays(1), pays(2)),)
                for number in NUMBERS + LONG:
                    wanted = 1 if (number - rest) % by == 0 else 2
                    self.assertEqual(told(program, number), wanted)
        program = (("if", ("rest", ("minus", "n", 1), 6, 5), pays(1), pays(2)),)
        self.assertEqual([told(program, n) for n in (0, 6, -6, 5, -1)], [1, 1, 1, 2, 2])

    def test_not(self):
        for test in (SMALL, EVEN, ("rest", "n", 3, 2), ("less", 0, "n")):
            for number in NUMBERS:
                found = [told((("if", denied, pays(1), pays(0)),), number) for denied in (test, ("not", test), ("not", ("not", test)))]
                self.assertEqual(found[0], found[2])
                self.assertEqual(found[0] + found[1], 1)

    def test_if_with_empty_blocks(self):
        program = (("if", SMALL, (), pays(1)), ("if", EVEN, pays(10), ()), ("pay", 90))
        self.assertEqual([told(program, n) for n in (0, 1, 2, -1)], [100, 91, 101, 90])

    def test_repeat(self):
        for times in range(1, 9):
            self.assertEqual(told((("repeat", times, pays("n")), ("pay", 1)), 5), 5 * times + 1)
            self.assertEqual(told((("repeat", times, ()), ("pay", 1)), 5), 1)
        program = (("repeat", 3, (("set", "a", ("plus", "a", 1)), ("repeat", 2, pays("a")))), ("pay", 50))
        self.assertEqual(told(program, 0), 2 * (1 + 2 + 3) + 50)
        program = (("repeat", 2, (("repeat", 2, (("repeat", 2, pays(1)),)),)),)
        self.assertEqual(told(program, 0), 8)

    def test_test_in_repeat(self):
        step = ("if", ("less", "n", 0), pays(1), (("set", "n", ("minus", "n", 1)), ("pay", 10)))
        self.assertEqual([told((("repeat", 2, (step,)),), n) for n in (-1, 0, 1, 2)], [2, 11, 20, 20])


class TestStop(unittest.TestCase):
    def test_at_every_depth(self):
        for levels in range(4):
            program = (*nested(pays(1) + (STOP,) + pays(2), levels), ("pay", 4))
            self.assertIsNone(program_error(program))
            self.assertEqual(run(program, 0, ()), (1, (0,) * levels, ("they",) * levels))

    def test_in_repeat(self):
        program = (("repeat", 8, (("pay", 1), STOP)), ("pay", 10))
        self.assertEqual(told(program, 0), 1)
        program = (("repeat", 2, (("repeat", 2, (("pay", 1), ("we", (), (STOP,)))),)), ("pay", 10))
        self.assertEqual(told(program, 0, (0, 0, 1)), 3)
        program = (("repeat", 2, (("pay", 1), ("if", SMALL, (STOP,), ()), ("set", "n", ("minus", "n", 1)))), ("pay", 10))
        self.assertEqual([told(program, n) for n in (0, 1, 2, 3)], [1, 2, 12, 12])

    def test_in_if_and_choice(self):
        program = (("if", SMALL, (("pay", 1), STOP), ()), ("we", (STOP,), pays(2)), ("pay", 4))
        self.assertEqual(run(program, 0, (1,)), (1, (), ()))
        self.assertEqual(run(program, 1, (0,)), (0, (0,), ("we",)))
        self.assertEqual(run(program, 1, (1,)), (6, (1,), ("we",)))


class TestTurns(unittest.TestCase):
    program = (("we", pays(1), pays(2)), ("they", pays(10), pays(20)), ("we", pays(40), pays(80)))

    def test_as_many_as_choices(self):
        for turns in itertools.product((0, 1), repeat=3):
            total = 1 + turns[0] + 10 * (1 + turns[1]) + 40 * (1 + turns[2])
            self.assertEqual(run(self.program, 0, turns), (total, turns, ("we", "they", "we")))

    def test_fewer(self):
        self.assertEqual(run(self.program, 0, ()), (51, (0, 0, 0), ("we", "they", "we")))
        self.assertEqual(run(self.program, 0, (1,)), (52, (1, 0, 0), ("we", "they", "we")))
        self.assertEqual(run(self.program, 0, (0, 1)), (61, (0, 1, 0), ("we", "they", "we")))

    def test_more(self):
        self.assertEqual(run(self.program, 0, (1, 1, 1, 1, 0, 1)), (102, (1, 1, 1), ("we", "they", "we")))
        self.assertEqual(run((), 0, (1, 0)), (0, (), ()))
        self.assertEqual(run(pays(3), 0, (1,)), (3, (), ()))

    def test_choices_behind_choices(self):
        program = (("we", (("they", pays(1), pays(2)),), (("we", pays(3), pays(4)), ("they", pays(10), pays(20)))),)
        self.assertEqual(run(program, 0, (0, 1, 1)), (2, (0, 1), ("we", "they")))
        self.assertEqual(run(program, 0, (1, 1, 1)), (24, (1, 1, 1), ("we", "we", "they")))

    def test_choice_in_repeat(self):
        program = (("repeat", 3, (("they", pays(1), (("set", "a", ("plus", "a", 1)), ("pay", ("times", 9, "a")))),)),)
        self.assertEqual(run(program, 0, (1, 0, 1)), (9 + 1 + 18, (1, 0, 1), ("they",) * 3))
        program = (("repeat", 4, (("we", pays(1), (STOP,)),)), ("pay", 10))
        self.assertEqual(run(program, 0, (0, 0, 1)), (2, (0, 0, 1), ("we",) * 3))
        self.assertEqual(run(program, 0, (0, 0)), (14, (0,) * 4, ("we",) * 4))

    def test_choices_that_depend_on_the_number(self):
        program = (("if", SMALL, (("we", (), pays(1)),), (("they", (), pays(2)), ("they", (), pays(4)))),)
        self.assertEqual(run(program, 0, (1, 1)), (1, (1,), ("we",)))
        self.assertEqual(run(program, 1, (1, 1)), (6, (1, 1), ("they", "they")))

    def test_kinds_of_results(self):
        for turns in TURNS:
            row = run(self.program, 10 ** 59, turns)
            self.assertEqual([type(part) for part in row], [int, tuple, tuple])
            self.assertEqual({type(turn) for turn in row[1]}, {int})
            self.assertEqual({type(hand) for hand in row[2]}, {str})


class TestAgainstSlowReading(unittest.TestCase):
    def test_random_programs(self):
        source = random.Random(61)
        for _ in range(400):
            program = random_program(source)
            before = copy.deepcopy(program)
            for number in source.sample(NUMBERS, 4) + [source.choice(LONG)]:
                for turns in source.sample(TURNS, 6):
                    self.assertEqual(run(program, number, turns), slow_run(program, number, turns))
                self.assertEqual(list(each_run(program, number)), slow_runs(program, number))
            self.assertEqual(program, before)

    def test_without_stop_and_with_many_choices(self):
        source = random.Random(62)
        for _ in range(150):
            program = random_program(source, lambda block: choices_in(block) > 1 and not has_word(block, "stop"))
            for number in source.sample(NUMBERS, 4):
                for turns in source.sample(TURNS, 6):
                    self.assertEqual(run(program, number, turns), slow_run(program, number, turns))
                self.assertEqual(list(each_run(program, number)), slow_runs(program, number))

    def test_same_run_again(self):
        source = random.Random(63)
        for _ in range(100):
            one, other = random_program(source), random_program(source)
            number, turns = source.choice(NUMBERS), source.choice(TURNS)
            first = run(one, number, turns)
            run(other, source.choice(NUMBERS), source.choice(TURNS))
            run(one, number + 1, source.choice(TURNS))
            self.assertEqual(run(one, number, turns), first)


class TestEachRun(unittest.TestCase):
    def test_without_a_choice(self):
        self.assertEqual(list(each_run((), 3)), [(0, (), ())])
        self.assertEqual(list(each_run(pays("n", 1), 3)), [(4, (), ())])

    def test_four_choices(self):
        program = (("repeat", 4, (("set", "a", ("times", 2, "a")), ("they", (), (("set", "a", ("plus", "a", 1)),)))), ("pay", "a"))
        rows = list(each_run(program, 0))
        self.assertEqual([row[0] for row in rows], list(range(16)))
        self.assertEqual([row[1] for row in rows], list(itertools.product((0, 1), repeat=4)))
        self.assertEqual({row[2] for row in rows}, {("they",) * 4})

    def test_choices_reached_behind_others_only(self):
        program = (("we", (STOP,), (("they", (("we", (), pays(1)),), pays(2)),)),)
        self.assertEqual(list(each_run(program, 0)), [
            (0, (0,), ("we",)),
            (0, (1, 0, 0), ("we", "they", "we")),
            (1, (1, 0, 1), ("we", "they", "we")),
            (2, (1, 1), ("we", "they")),
        ])

    def test_choices_in_repeat_with_stop(self):
        program = (("repeat", 3, (("we", pays(1), (STOP,)),)),)
        self.assertEqual([row[:2] for row in each_run(program, 0)], [(3, (0, 0, 0)), (2, (0, 0, 1)), (1, (0, 1)), (0, (1,))])

    def test_each_as_run_tells_it(self):
        source = random.Random(64)
        for _ in range(150):
            program = random_program(source, choices_in)
            number = source.choice(NUMBERS + LONG)
            rows = list(each_run(program, number))
            self.assertEqual([row[1] for row in rows], sorted({row[1] for row in rows}))
            for row in rows:
                self.assertIs(type(row), tuple)
                self.assertEqual(run(program, number, row[1]), row)
            self.assertEqual({run(program, number, turns) for turns in TURNS}, set(rows))
            self.assertEqual(list(each_run(program, number)), rows)

    def test_generators_by_turns(self):
        self.assertIsInstance(each_run(FULL, 1), types.GeneratorType)
        one, other, same = each_run(FULL, -3), each_run(TestTurns.program, 1), each_run(FULL, -3)
        wanted = [list(each_run(FULL, -3)), list(each_run(TestTurns.program, 1)), list(each_run(FULL, -3))]
        found = [[], [], []]
        for _ in range(9):
            for rows, held in zip(found, (one, other, same)):
                rows.extend([row for row in [next(held, None)] if row is not None])
        self.assertEqual(found, wanted)


class TestTurnedPrograms(unittest.TestCase):
    def test_contrary_totals_and_other_hands(self):
        source = random.Random(65)
        other_hand = {"we": "they", "they": "we"}
        many = 0
        while many < 200:
            program = random_program(source)
            if program_error(turned(program)) is not None:
                continue
            many += 1
            for number in source.sample(NUMBERS + LONG, 3):
                wanted = [(-total, turns, tuple(other_hand[hand] for hand in hands)) for total, turns, hands in each_run(program, number)]
                self.assertEqual(list(each_run(turned(program), number)), wanted)
                turns = source.choice(TURNS)
                self.assertEqual(run(turned(program), number, turns)[0], -run(program, number, turns)[0])


def denied(block):
    """Return the block with each test denied and its blocks exchanged."""
    found = []
    for statement in block:
        if statement[0] == "if":
            test = statement[1]
            test = test[1] if test[0] == "not" else ("not", test)
            found.append(("if", test, denied(statement[3]), denied(statement[2])))
        else:
            found.append(with_blocks(statement, denied))
    return tuple(found)


def with_blocks(statement, change):
    if statement[0] in ("we", "they", "repeat"):
        return (statement[0], *[change(part) if type(part) is tuple else part for part in statement[1:]])
    return statement


def written_out(block):
    """Return the block with each repeated block as often as it is repeated."""
    found = []
    for statement in block:
        if statement[0] == "repeat":
            found += written_out(statement[2]) * statement[1]
        elif statement[0] == "if":
            found.append((*statement[:2], written_out(statement[2]), written_out(statement[3])))
        else:
            found.append(with_blocks(statement, written_out))
    return tuple(found)


def renamed(value):
    if type(value) is tuple:
        return tuple(renamed(part) for part in value)
    return {"a": "b2", "b2": "xyz00001"}.get(value, value) if type(value) is str else value


class TestWrittenOtherwise(unittest.TestCase):
    def assert_same_runs(self, change, fits):
        source = random.Random(66)
        many = 0
        while many < 120:
            program = random_program(source, fits)
            other = change(program)
            if program_error(other) is not None:
                continue
            many += 1
            self.assertNotEqual(other, program)
            for number in source.sample(NUMBERS + LONG, 4):
                self.assertEqual(list(each_run(other, number)), list(each_run(program, number)))

    def test_tests_denied(self):
        self.assert_same_runs(denied, lambda block: has_word(block, "if"))

    def test_repeats_written_out(self):
        self.assert_same_runs(written_out, lambda block: has_word(block, "repeat"))

    def test_names_exchanged(self):
        self.assert_same_runs(renamed, lambda block: renamed(block) != block)


if __name__ == "__main__":
    unittest.main()
