import copy
import random
import unittest

from bench_readings import SlowBench
from bench_samples import NESTED, NESTED_THEIRS, NO_STATEMENTS, THEIRS, random_item, random_items, random_place, random_value
from bench_samples import result_of, slow_result_of, start_of, wrong_places
from program_samples import FAR, PROGRAMS, all_programs, pays
from samples import EVEN, FULL, SMALL, STOP, odd_values, slow_error
from weandthey.benches import Bench, WonBench
from weandthey.bounds import MAX_EDITS
from weandthey.errors import BadGift, BadNumber, BadProgram, BadTurns, IsGiven, Lost, NoGift, NoPlace, NotGiven, NothingToRedo
from weandthey.errors import NothingToUndo, NotTheirs, NoVersion, TooManyEdits
from weandthey.gifts import fewest_gift, gifted
from weandthey.lines import Lines
from weandthey.programs import each_statement
from weandthey.runs import run
from weandthey.verdicts import lost
from weandthey.worths import worth

SIZE = 12
LINES = Lines(((0, 1, None, None, (0, 0)),))


def theirs_of(program):
    return [place for place, _, statement in each_statement(program) if statement[0] == "they"]


def all_of(bench):
    """Return all that can be asked of a bench."""
    versions = [bench.state(version=version) for version in range(len(bench) + 1)]
    return (bench.program, bench.gift, len(bench), bench.edits(), bench.state(), versions, str(bench))


class TestCase(unittest.TestCase):
    def assert_raises(self, error, fields, action):
        """Assert that an action raises just this error, with the very objects as its fields."""
        with self.assertRaises(error) as caught:
            action()
        self.assertIs(type(caught.exception), error)
        self.assertEqual(list(vars(caught.exception)), list(fields))
        for name, value in fields.items():
            if name == "error":
                self.assertEqual(getattr(caught.exception, name), value)
            else:
                self.assertIs(getattr(caught.exception, name), value)

    def assert_refused(self, bench, error, fields, action):
        """Assert that an edit raises an error and that all is as it was."""
        before = all_of(bench)
        redone = bench.undone
        self.assert_raises(error, fields, action)
        self.assertEqual(all_of(bench), before)
        self.assertEqual(bench.undone, redone)

    def assert_bench(self, bench, program, gift, version):
        self.assertEqual((bench.program, bench.gift, len(bench)), (program, gift, version))
        self.assertEqual(bench.state(), (program, gift))


class TestExamples(unittest.TestCase):
    def test_edits(self):
        bench = Bench((("pay", 0), ("they", (("pay", 2),), (("pay", -2),))))
        self.assertEqual(
            [bench.verdict(), bench.give(1), bench.verdict(), bench.drop(0), bench.gift, bench.outcome(7, (1,))],
            [0, 1, None, 2, (0,), (-2, (1,), ('we',))],
        )

    def test_undo(self):
        bench = Bench((("they", (("pay", "n"),), (("pay", 0),)),))
        self.assertEqual(
            [bench.give_fewest(), bench.gift, bench.undo(), bench.gift, bench.redo(), bench.take(0), bench.edits()],
            [1, (0,), 0, (), 1, 2, (('give_fewest',), ('take', 0))],
        )

    def test_attempt(self):
        bench = Bench((("they", (), (("pay", -1),)), ("pay", 3)))
        self.assertEqual(
            [bench.attempt([("give", 0), ("add", ("stop",)), ("drop", 0)], watch=lambda held: len(held.program) == 3), bench.gift, len(bench), bench.undo(), len(bench.program)],
            [2, (0,), 1, 0, 2],
        )


class TestNew(TestCase):
    def test_attributes(self):
        for kind in (Bench, WonBench):
            bench = kind(())
            self.assert_bench(bench, (), (), 0)
            self.assertEqual(bench.edits(), ())
            self.assertEqual((kind.MOST_EDITS, bench.MOST_EDITS, MAX_EDITS), (60, 60, 60))
            self.assertTrue({"program", "gift"} <= set(vars(bench)))
        bench = Bench(NESTED, (1, 9))
        self.assert_bench(bench, NESTED, (1, 9), 0)
        self.assert_bench(Bench(program=NESTED, gift=(3,)), NESTED, (3,), 0)

    def test_bad_programs(self):
        values = odd_values() + [(value,) for value in odd_values()] + [(value,) for value in NO_STATEMENTS] + [FULL + FULL + FULL, (STOP,) * 25, LINES, (LINES,), LINES.rows]
        for kind in (Bench, WonBench):
            for value in values:
                self.assert_raises(BadProgram, {"error": slow_error(value)}, lambda: kind(value))
                self.assert_raises(BadProgram, {"error": slow_error(value)}, lambda: kind(value, None))

    def test_bad_gifts(self):
        values = odd_values() + [(value,) for value in odd_values() if str(value) != "1"] + [[1, 3], (3, 1), (1, 1), (1, 3, 3), (0,), (1, 2), (12,), (-1,), (1, True), (True,), (1, 3, 7, 9, 11), ((1,),), ("1",), (1, None), {1: 1}, FULL, LINES]
        for kind in (Bench, WonBench):
            for value in values:
                self.assert_raises(BadGift, {"value": value}, lambda: kind(NESTED, value))
        for gift in ((), (1,), (3,), (1, 3), (7, 9), (1, 9), NESTED_THEIRS):
            self.assertEqual(Bench(NESTED, gift).gift, gift)

    def test_every_gift_of_random_programs(self):
        source = random.Random(190)
        for _ in range(200):
            program, gift = start_of(source, theirs_of)
            self.assert_bench(Bench(program, gift), program, gift, 0)
            wrong = gift + (source.randrange(24),)
            if list(wrong) != sorted(set(wrong)) or not set(wrong) <= set(theirs_of(program)):
                self.assert_raises(BadGift, {"value": wrong}, lambda: Bench(program, wrong))


class TestEdits(TestCase):
    def test_add(self):
        bench = Bench(NESTED, (3,))
        self.assertEqual(bench.add(("pay", "n")), 1)
        self.assert_bench(bench, NESTED + (("pay", "n"),), (3,), 1)
        self.assertEqual(bench.add(("if", EVEN, (STOP,), ())), 2)
        self.assert_bench(bench, NESTED + (("pay", "n"), ("if", EVEN, (STOP,), ())), (3,), 2)
        self.assertEqual(bench.edits(), (("add", ("pay", "n")), ("add", ("if", EVEN, (STOP,), ()))))

    def test_add_errors(self):
        bench = Bench(NESTED, (3,))
        for value in odd_values() + NO_STATEMENTS + [(), THEIRS, ("we", (), ()), ("repeat", 8, (STOP, STOP, STOP)), LINES]:
            error = slow_error(NESTED + (value,))
            self.assert_refused(bench, BadProgram, {"error": error}, lambda: bench.add(value))
        full = Bench((STOP,) * 24)
        self.assert_refused(full, BadProgram, {"error": (None, "places")}, lambda: full.add(STOP))
        self.assert_refused(full, BadProgram, {"error": (24, "statement")}, lambda: full.add("stop"))

    def test_drop(self):
        for place, gift in ((0, (0, 2, 6, 8)), (1, (2, 4)), (2, (1, 2, 6, 8)), (3, (1, 4, 6)), (4, (1, 3, 6, 8)), (5, (1, 3, 6, 8)), (6, (1, 3, 7)), (7, (1, 3, 8)), (8, (1, 3, 7)), (9, (1, 3, 7)), (10, NESTED_THEIRS), (11, NESTED_THEIRS)):
            bench = Bench(NESTED, NESTED_THEIRS)
            self.assertEqual(bench.drop(place), 1)
            self.assertEqual(bench.gift, gift, place)
            self.assertEqual(set(gift) - set(theirs_of(bench.program)), set())
            self.assertEqual(bench.edits(), (("drop", place),))
        bench = Bench(NESTED)
        bench.drop(3)
        self.assertEqual(bench.program[1], ("they", (("pay", "n"),), ()))

    def test_change(self):
        for place, statement, gift in (
                (0, ("pay", 9), NESTED_THEIRS), (0, ("repeat", 2, (STOP, STOP)), (3, 5, 9, 11)), (1, NESTED[1], (7, 9)), (1, STOP, (3, 5)), (3, NESTED[1][2][0], (1, 7, 9)),
                (3, STOP, (1, 5, 7)), (3, ("they", (), ()), (1, 5, 7)), (5, ("if", SMALL, (STOP,), ()), (1, 3, 8, 10)), (6, NESTED[2], (1, 3, 9)), (7, ("they", (), ()), (1, 3, 9)),
                (9, ("we", (STOP,), ()), (1, 3, 7)), (11, STOP, NESTED_THEIRS), (10, ("pay", 4), NESTED_THEIRS)):
            bench = Bench(NESTED, NESTED_THEIRS)
            self.assertEqual(bench.change(place, statement), 1)
            self.assertEqual(bench[place], statement)
            self.assertEqual(bench.gift, gift, (place, statement))
            self.assertEqual(bench.edits(), (("change", place, statement),))

    def test_change_for_an_equal_statement(self):
        bench = Bench(NESTED, NESTED_THEIRS)
        for version, place in enumerate(NESTED_THEIRS):
            self.assertEqual(bench.change(place, bench[place]), version + 1)
            self.assertEqual(bench.program, NESTED)
            self.assertNotIn(place, bench.gift)
        self.assertEqual(bench.gift, ())
        bench = Bench(NESTED, (3,))
        bench.change(1, NESTED[1])
        self.assert_bench(bench, NESTED, (), 1)

    def test_a_statement_around_stays_given(self):
        bench = Bench(NESTED, (1, 3))
        bench.change(4, ("pay", 1))
        bench.change(5, STOP)
        bench.drop(2)
        self.assertEqual(bench.gift, (1, 2))
        bench.drop(2)
        self.assertEqual(bench.gift, (1,))

    def test_place_errors(self):
        bench = Bench(NESTED, (3,))
        for place in wrong_places(SIZE) + [LINES, True, False]:
            self.assert_refused(bench, NoPlace, {"place": place}, lambda: bench.drop(place))
            self.assert_refused(bench, NoPlace, {"place": place}, lambda: bench.give(place))
            self.assert_refused(bench, NoPlace, {"place": place}, lambda: bench.take(place))
            for statement in (STOP, "stop", None, ("pay", 100)):
                self.assert_refused(bench, NoPlace, {"place": place}, lambda: bench.change(place, statement))
            self.assert_refused(bench, NoPlace, {"place": place}, lambda: bench[place])

    def test_change_errors(self):
        bench = Bench(NESTED, (3,))
        for place in range(SIZE):
            for value in odd_values() + NO_STATEMENTS + [(), LINES]:
                with self.assertRaises(BadProgram) as caught:
                    bench.change(place, value)
                self.assertEqual(caught.exception.error, (place, "statement"))
        self.assert_refused(bench, BadProgram, {"error": (None, "choices")}, lambda: bench.change(0, ("we", (), ())))
        self.assert_refused(bench, BadProgram, {"error": (None, "weight")}, lambda: bench.change(0, ("repeat", 8, (STOP, STOP, STOP))))
        # Place 4 lies in two others; what lies in the last one of these blocks lies in one more than may be.
        deep = ("repeat", 1, (STOP, STOP, STOP, ("repeat", 1, (STOP,))))
        self.assert_refused(bench, BadProgram, {"error": (9, "nest")}, lambda: bench.change(4, deep))
        full = Bench((STOP,) * 24)
        self.assert_refused(full, BadProgram, {"error": (None, "places")}, lambda: full.change(7, ("repeat", 1, (STOP,))))
        self.assertEqual(full.change(7, ("pay", 1)), 1)

    def test_give_and_take(self):
        bench = Bench(NESTED)
        for version, place in enumerate((7, 1, 9, 3)):
            self.assertEqual(bench.give(place), version + 1)
        self.assertEqual(bench.gift, NESTED_THEIRS)
        self.assertEqual([bench.take(3), bench.gift], [5, (1, 7, 9)])
        self.assertEqual(bench.program, NESTED)
        self.assertEqual(bench.edits(), (("give", 7), ("give", 1), ("give", 9), ("give", 3), ("take", 3)))
        for place in range(SIZE):
            if place not in NESTED_THEIRS:
                self.assert_refused(bench, NotTheirs, {"place": place}, lambda: bench.give(place))
            if place not in bench.gift:
                self.assert_refused(bench, NotGiven, {"place": place}, lambda: bench.take(place))
            else:
                self.assert_refused(bench, IsGiven, {"place": place}, lambda: bench.give(place))

    def test_a_given_place_is_given_no_more(self):
        bench = Bench((THEIRS, THEIRS), (0, 3))
        bench.change(0, THEIRS)
        self.assert_refused(bench, NotGiven, {"place": 0}, lambda: bench.take(0))
        self.assertEqual([bench.give(0), bench.gift], [2, (0, 3)])
        bench.drop(0)
        self.assertEqual(bench.gift, (0,))
        self.assert_refused(bench, IsGiven, {"place": 0}, lambda: bench.give(0))

    def test_arguments_are_not_changed(self):
        for value in odd_values() + NO_STATEMENTS:
            before = copy.deepcopy(value)
            bench = Bench(NESTED, (3,))
            for action in (lambda: bench.add(value), lambda: bench.drop(value), lambda: bench.change(value, value), lambda: bench.change(1, value),
                           lambda: bench.attempt(value), lambda: bench.attempt([value]), lambda: bench.attempt([("add", value)]), lambda: Bench(value, value), lambda: Bench(NESTED, value)):
                result_of(action)
            self.assertEqual(value, before)

    def test_items(self):
        bench = Bench(NESTED, (3,))
        for place, _, statement in each_statement(NESTED):
            self.assertEqual(bench[place], statement)
        bench[0] = ("pay", 7)
        self.assert_bench(bench, (("pay", 7), *NESTED[1:]), (3,), 1)
        bench[3] = STOP
        self.assertEqual((bench.gift, bench.edits()[1]), ((), ("change", 3, STOP)))

        def set_item(place, statement):
            bench[place] = statement
        self.assert_refused(bench, NoPlace, {"place": 99}, lambda: set_item(99, STOP))
        self.assert_refused(bench, BadProgram, {"error": (1, "statement")}, lambda: set_item(1, None))
        with self.assertRaises(TypeError):
            iter(bench)
        self.assertEqual(len(bench), 2)

    def test_adding_and_subtracting(self):
        bench = held = Bench(NESTED, (3,))
        bench += ("pay", 1)
        self.assertIs(bench, held)
        self.assert_bench(bench, NESTED + (("pay", 1),), (3,), 1)
        bench -= 0
        self.assertIs(bench, held)
        self.assert_bench(bench, NESTED[1:] + (("pay", 1),), (2,), 2)
        self.assertEqual(bench.edits(), (("add", ("pay", 1)), ("drop", 0)))

        def add_to(value):
            nonlocal bench
            bench += value

        def subtract(value):
            nonlocal bench
            bench -= value
        for value in odd_values() + NO_STATEMENTS:
            error = slow_error(bench.program + (value,))
            self.assert_refused(held, BadProgram, {"error": error}, lambda: add_to(value))
            if value not in (0, 1) or type(value) is bool:
                self.assert_refused(held, NoPlace, {"place": value}, lambda: subtract(value))
        self.assertIs(bench, held)

    def test_values_are_the_very_objects(self):
        bench = Bench(NESTED)
        for place in ([0], {"a": 1}, "0", 10 ** 59, (1,)):
            self.assert_raises(NoPlace, {"place": place}, lambda: bench.drop(place))
        gift = [1]
        self.assert_raises(BadGift, {"value": gift}, lambda: Bench(NESTED, gift))

    def test_programs_at_the_bounds(self):
        for program in all_programs(random.Random(192), 0):
            bench = Bench(program)
            for place in range(len(list(each_statement(program))) - 1, -1, -1):
                statement = bench[place]
                bench.change(place, statement)
                self.assertEqual(bench.program, program)
                if len(bench) < 60:
                    bench.drop(place)
                    bench.undo()
                self.assertEqual(bench.program, program)


class TestSixtyEdits(TestCase):
    def full(self, kind=Bench):
        bench = kind((THEIRS, ("pay", 1)), (0,))
        for at in range(60):
            self.assertEqual(bench.change(3, ("pay", at)), at + 1)
        return bench

    def test_every_edit(self):
        for kind in (Bench, WonBench):
            bench = self.full(kind)

            def set_item(place, statement):
                bench[place] = statement
            for action in (lambda: bench.add(STOP), lambda: bench.add(None), lambda: bench.drop(0), lambda: bench.drop(99), lambda: bench.change(0, STOP), lambda: bench.change("x", None),
                           lambda: bench.give(0), lambda: bench.give(1), lambda: bench.give(None), lambda: bench.take(0), lambda: bench.take(1), lambda: bench.give_fewest(), lambda: set_item(0, STOP),
                           lambda: bench.__iadd__(STOP), lambda: bench.__isub__(0), lambda: bench.attempt([("drop", 0)]), lambda: bench.attempt([("drop", 99)]), lambda: bench.attempt([("drop", 0)], watch=self.fail)):
                self.assert_refused(bench, TooManyEdits, {}, action)
            self.assertEqual(bench.attempt([]), 0)
            self.assertEqual(bench.attempt((), watch=self.fail), 0)
            self.assertEqual(bench.undo(), 59)
            self.assertEqual(bench.redo(), 60)
            self.assert_raises(TooManyEdits, {}, lambda: bench.take(0))
            self.assertEqual(bench.undo(), 59)
            self.assertEqual(bench.attempt([("change", 3, ("pay", at)) for at in range(20)]), 20)
            self.assertEqual(len(bench), 60)
            self.assert_raises(TooManyEdits, {}, lambda: bench.take(0))
            self.assert_raises(NothingToRedo, {}, bench.redo)
            for version in range(59, -1, -1):
                self.assertEqual(bench.undo(), version)
            self.assert_raises(NothingToUndo, {}, bench.undo)
            for version in range(60):
                self.assertEqual(bench.redo(), version + 1)
            self.assert_raises(NothingToRedo, {}, bench.redo)

    def test_wrong_attempts_come_first(self):
        bench = self.full()
        for value, name in ((None, "BadEdits"), ([("drop", 0)] * 21, "BadEdits"), ([("dropped", 0)], "BadEdit"), ([("drop", 0), None], "BadEdit")):
            self.assertEqual(result_of(lambda: bench.attempt(value))[0], name)


class TestUndo(TestCase):
    def test_nothing(self):
        for kind in (Bench, WonBench):
            bench = kind(pays(1))
            self.assert_refused(bench, NothingToUndo, {}, bench.undo)
            self.assert_refused(bench, NothingToRedo, {}, bench.redo)

    def test_there_and_back(self):
        bench = Bench(NESTED, (3,))
        bench.drop(0)
        bench.attempt([("give", 0), ("add", STOP)])
        bench.give_fewest()
        bench.change(0, STOP)
        states = [bench.state(version=version) for version in range(5)]
        edits = bench.edits()
        self.assertEqual(edits[1], ("attempt", (("give", 0), ("add", STOP))))
        for version in (3, 2, 1, 0):
            self.assertEqual(bench.undo(), version)
            self.assertEqual((bench.state(), bench.edits()), (states[version], edits[:version]))
        for version in (1, 2, 3, 4):
            self.assertEqual(bench.redo(), version)
            self.assertEqual((bench.state(), bench.edits()), (states[version], edits[:version]))
        self.assertEqual([bench.state(version=version) for version in range(5)], states)

    def test_a_new_edit_forgets(self):
        for edit in (lambda bench: bench.add(STOP), lambda bench: bench.drop(0), lambda bench: bench.change(0, NESTED[0]), lambda bench: bench.give(1), lambda bench: bench.take(3),
                     lambda bench: bench.give_fewest(), lambda bench: bench.attempt([("give", 1)]), lambda bench: bench.__iadd__(STOP)):
            bench = Bench(NESTED[:4], (3,))
            bench.change(0, ("pay", 9))
            bench.drop(0)
            bench.undo()
            edit(bench)
            self.assertEqual(len(bench), 2)
            self.assert_refused(bench, NothingToRedo, {}, bench.redo)

    def test_what_is_refused_forgets_nothing(self):
        bench = Bench(NESTED, (3,))
        bench.drop(0)
        bench.undo()

        def fail(held):
            raise KeyError
        for action in (lambda: bench.add(None), lambda: bench.drop(99), lambda: bench.give(0), lambda: bench.take(0), lambda: bench.change(0, None), lambda: bench.attempt(None), lambda: bench.attempt([None]),
                       lambda: bench.attempt([("drop", 99)]), lambda: bench.attempt([("drop", 0), ("drop", 99)]), lambda: bench.attempt([("drop", 0)], watch=fail), lambda: bench.undo()):
            self.assertIs(type(result_of(action)), tuple)
        self.assertEqual(bench.attempt([]), 0)
        self.assertEqual(bench.attempt((), watch=fail), 0)
        self.assertEqual([bench.verdict(), bench.told(0), bench.outcome(0, ()), bench.state(version=0)][-1], (NESTED, (3,)))
        self.assertEqual(bench.redo(), 1)
        self.assertEqual(bench.program, NESTED[1:])

    def test_against_doing_it_all_anew(self):
        source = random.Random(193)
        names = {}
        for at in range(300):
            won = at % 3 == 0
            program, gift = start_of(source, theirs_of)
            if won and lost(gifted(program, gift)) is not None:
                program, gift = source.choice([((THEIRS, ("pay", 1)), (0,)), (pays(5), ()), (NESTED[:1] + pays(50), ())])
            bench, slow = (WonBench if won else Bench)(program, gift), SlowBench(program, gift, won)
            for _ in range(12):
                size = len(list(each_statement(bench.program)))
                name, *values = source.choice([random_item(source, size), random_item(source, size), ("undo",), ("undo",), ("redo",), ("give_fewest",), ("attempt", random_items(source, size))])
                wanted = slow_result_of(lambda: slow.do(name, *values))
                self.assertEqual(result_of(lambda: getattr(bench, name)(*values)), wanted, (program, gift, name, values))
                key = wanted[0] if type(wanted) is tuple else name
                names[key] = names.get(key, 0) + 1
                self.assertEqual(bench.state(), slow.state())
                self.assertEqual((bench.program, bench.gift), slow.state())
                self.assertEqual((bench.edits(), len(bench)), (tuple(slow.done), len(slow.done)))
            for version in range(len(bench) + 1):
                self.assertEqual(bench.state(version=version), slow.replayed(slow.done[:version]).told())
        for name in ("add", "drop", "change", "give", "take", "undo", "redo", "give_fewest", "attempt", "NoPlace", "NotTheirs", "IsGiven", "NotGiven", "BadProgram", "NoGift", "Lost", "Rejected", "NothingToUndo", "NothingToRedo"):
            self.assertGreater(names.get(name, 0), 5, name)


class TestGiveFewest(TestCase):
    def test_whatever_the_gift_was(self):
        program = (("they", pays("n"), pays(("times", -1, "n"))), ("they", pays(-1), ()))
        for gift in ((), (0,), (3,), (0, 3)):
            bench = Bench(program, gift)
            self.assertEqual(bench.give_fewest(), 1)
            self.assert_bench(bench, program, (0, 3), 1)
            self.assertIsNone(bench.verdict())
            self.assertEqual(bench.give_fewest(), 2)
            self.assertEqual([bench.undo(), bench.undo(), bench.gift], [1, 0, gift])
        bench = Bench(NESTED, NESTED_THEIRS)
        bench.give_fewest()
        self.assertEqual(bench.gift, fewest_gift(NESTED))
        won = WonBench((THEIRS, ("pay", 99)), (0,))
        self.assertEqual(won.give_fewest(), 1)
        self.assertEqual(won.gift, (0,))
        bench = Bench((("they", pays(1), pays(2)),), (0,))
        self.assertEqual([bench.give_fewest(), bench.gift], [1, ()])

    def test_no_gift(self):
        bench = Bench((THEIRS, ("pay", -1)), (0,))
        self.assert_refused(bench, NoGift, {}, bench.give_fewest)
        bench.drop(3)
        bench.undo()
        self.assert_refused(bench, NoGift, {}, bench.give_fewest)
        self.assertEqual(bench.redo(), 1)


class TestQueries(TestCase):
    def test_verdict_outcome_and_told(self):
        source = random.Random(194)
        for _ in range(120):
            program, gift = start_of(source, theirs_of)
            bench = Bench(program, gift)
            given = gifted(program, gift)
            self.assertEqual(bench.verdict(), lost(given))
            for number in (0, source.randint(-99, 99), FAR, -FAR):
                turns = tuple(source.randrange(2) for _ in range(source.choice([0, 1, 3, 4, 9, 300])))
                self.assertEqual(bench.outcome(number, turns), run(given, number, turns))
                self.assertEqual(bench.told(number), worth(given, number))
                self.assertEqual(bench.told(number, version=None), worth(given, number))
                self.assertEqual(bench.told(number, version=0), worth(given, number))
            self.assert_bench(bench, program, gift, 0)

    def test_versions(self):
        bench = Bench((THEIRS,))
        bench.give(0)
        bench.add(("pay", 2))
        bench.attempt([("take", 0), ("add", ("pay", 3))])
        self.assertEqual([bench.told(-5, version=version) for version in (None, 0, 1, 2, 3)], [0, -5, 0, 2, 0])
        self.assertEqual([bench.state(version=version)[1] for version in (None, 0, 1, 2, 3)], [(), (), (0,), (0,), ()])
        bench.undo()
        for version in [4, 3, -1, True, False, 10 ** 59, *[value for value in odd_values() if type(value) is not int and value is not None], (), (0,), LINES]:
            self.assert_raises(NoVersion, {"version": version}, lambda: bench.state(version=version))
            self.assert_raises(NoVersion, {"version": version}, lambda: bench.told(0, version=version))
            self.assert_raises(NoVersion, {"version": version}, lambda: bench.told(None, version=version))
        self.assertEqual(bench.state(version=2), bench.state())
        self.assertIs(type(bench.state()), tuple)

    def test_bad_numbers_and_turns(self):
        bench = Bench((THEIRS,))
        for value in odd_values() + [(), (0,), (True,), LINES]:
            if type(value) is not int:
                self.assert_raises(BadNumber, {"number": value}, lambda: bench.outcome(value, ()))
                self.assert_raises(BadNumber, {"number": value}, lambda: bench.outcome(value, None))
                self.assert_raises(BadNumber, {"number": value}, lambda: bench.told(value))
                self.assert_raises(BadNumber, {"number": value}, lambda: bench.told(value, version=0))
            if value not in ((), (0,)):
                self.assert_raises(BadTurns, {"turns": value}, lambda: bench.outcome(0, value))
        for turns in ([0], (0, 1, 2), (0, -1), (0, True), (False,), ("0",), (None,), "01", ((0,),), (0, 1.0), {0: 1}):
            self.assert_raises(BadTurns, {"turns": turns}, lambda: bench.outcome(0, turns))
        self.assertEqual(bench.outcome(5, (1,) * 2000), (0, (1,), ("they",)))

    def test_edits(self):
        bench = Bench(NESTED, (3,))
        bench.attempt([("give", 1)])
        bench.give_fewest()
        bench.take(1)
        self.assertEqual(bench.edits(), (("attempt", (("give", 1),)), ("give_fewest",), ("take", 1)))
        self.assertIs(type(bench.edits()), tuple)

    def test_len_str_and_truth(self):
        for kind in (Bench, WonBench):
            bench = kind((("repeat", 2, (("pay", 4), THEIRS)), ("pay", 9)), (2,))
            self.assertEqual((len(bench), str(bench), bool(bench)), (0, "6 statements, 1 given, 0 edits", False))
            bench.add(STOP)
            self.assertEqual((len(bench), str(bench), bool(bench)), (1, "7 statements, 1 given, 1 edits", True))
            bench.attempt([("drop", 6), ("drop", 5)])
            self.assertEqual((len(bench), str(bench), bool(bench)), (2, "5 statements, 1 given, 2 edits", True))
            bench.undo()
            bench.undo()
            self.assertEqual((len(bench), str(bench), bool(bench)), (0, "6 statements, 1 given, 0 edits", False))
        self.assertEqual(str(Bench(())), "0 statements, 0 given, 0 edits")

    def test_equal_benches(self):
        program = (THEIRS, ("pay", 1))
        one, other = Bench(program, (0,)), Bench(program, (0,))
        self.assertIs(one == other, True)
        self.assertIs(one != other, False)
        other.take(0)
        self.assertIs(one == other, False)
        self.assertIs(one != other, True)
        other.give(0)
        self.assertIs(one == other, True)
        other.add(STOP)
        self.assertIs(one == other, False)
        won, another = WonBench(program, (0,)), WonBench(program, (0,))
        self.assertIs(won == another, True)
        self.assertIs(won != another, False)
        for first, second in ((one, won), (won, one)):
            self.assertIs(first == second, False)
            self.assertIs(first != second, True)
        self.assertIs(one == Bench(program), False)
        for value in odd_values() + [(), program, (program, (0,)), one.state(), LINES, Bench, str(one), one.program]:
            for bench in (one, won):
                self.assertIs(bench == value, False)
                self.assertIs(value == bench, False)
                self.assertIs(bench != value, True)

    def test_questions_change_nothing(self):
        bench = Bench(NESTED, (3,))
        bench.drop(0)
        bench.add(STOP)
        bench.undo()
        before = all_of(bench)
        for action in (bench.verdict, lambda: bench.outcome(3, (1, 0)), lambda: bench.outcome(None, ()), lambda: bench.told(5, version=0), lambda: bench.told(0, version=9), bench.state, bench.edits, lambda: str(bench), lambda: bench[0], lambda: bench[99], lambda: bench == bench):
            result_of(action)
        self.assertEqual(all_of(bench), before)
        self.assertEqual(bench.redo(), 2)


class TestWonBench(TestCase):
    program = (THEIRS, ("pay", 1))

    def test_example(self):
        bench = WonBench((("they", (("pay", "n"),), (("pay", 0),)), ("pay", 1)), (0,))
        self.assertEqual([bench.attempt([("take", 0), ("change", 0, ("pay", 3))]), bench.outcome(-5, ()), str(bench)], [2, (4, (), ()), '2 statements, 0 given, 1 edits'])

    def test_example_of_lost(self):
        with self.assertRaises(Lost) as caught:
            WonBench((("they", (("pay", "n"),), (("pay", 0),)),), (0,)).take(0)
        self.assertEqual(caught.exception.number, -1)

    def test_is_a_bench(self):
        self.assertTrue(issubclass(WonBench, Bench))
        self.assertIsInstance(WonBench(()), Bench)

    def test_new(self):
        for program, gift, number in ((pays(-1), (), 0), (pays("n"), (), -1), ((THEIRS,), (), -1), (self.program, (), -2), (pays(("minus", 7, "n")), (), 8)):
            with self.assertRaises(Lost) as caught:
                WonBench(program, gift)
            self.assertEqual(caught.exception.number, number)
            self.assertEqual(lost(gifted(program, gift)), number)
        for program, gift in (((), ()), (self.program, (0,)), ((THEIRS,), (0,)), (PROGRAMS["nothing"], ())):
            self.assert_bench(WonBench(program, gift), program, gift, 0)

    def assert_lost(self, bench, number, action):
        before, undone = all_of(bench), bench.undone
        with self.assertRaises(Lost) as caught:
            action()
        self.assertEqual(caught.exception.number, number)
        self.assertEqual((all_of(bench), bench.undone), (before, undone))

    def test_every_edit(self):
        bench = WonBench(self.program, (0,))
        bench.add(("pay", 7))
        bench.undo()

        def set_item(place, statement):
            bench[place] = statement
        self.assert_lost(bench, -2, lambda: bench.take(0))
        self.assert_lost(bench, 0, lambda: bench.add(("pay", -2)))
        self.assert_lost(bench, 2, lambda: bench.add(("pay", ("times", -2, "n"))))
        self.assert_lost(bench, 0, lambda: bench.change(3, ("pay", -1)))
        self.assert_lost(bench, -2, lambda: bench.change(0, THEIRS))
        self.assert_lost(bench, 2, lambda: set_item(0, ("pay", ("minus", 0, "n"))))
        self.assert_lost(bench, 0, lambda: bench.__iadd__(("pay", -9)))
        self.assertEqual(bench.redo(), 1)
        self.assertEqual(bench.change(3, ("pay", -7)), 2)
        self.assert_lost(bench, 0, lambda: bench.drop(4))
        self.assert_lost(bench, 0, lambda: bench.__isub__(4))
        self.assert_lost(bench, -1, lambda: bench.change(0, ("pay", "n")))
        bench = WonBench((THEIRS,), (0,))
        with self.assertRaises(Lost):
            bench.change(0, ("they", pays(-1), ()))
        self.assertEqual([bench.drop(0), bench.gift], [1, ()])

    def test_other_errors_come_first(self):
        bench = WonBench(self.program, (0,))
        for action, error, fields in ((lambda: bench.take(99), NoPlace, {"place": 99}), (lambda: bench.take(3), NotGiven, {"place": 3}), (lambda: bench.give(0), IsGiven, {"place": 0}), (lambda: bench.give(3), NotTheirs, {"place": 3}),
                                      (lambda: bench.add(("pay", -100)), BadProgram, {"error": (4, "statement")}), (lambda: bench.change(3, ("pay", -100)), BadProgram, {"error": (3, "statement")})):
            with self.assertRaises(error) as caught:
                action()
            self.assertEqual(vars(caught.exception), fields)
        self.assertEqual(result_of(lambda: bench.attempt([("take", 0), ("take", 0)])), ("Rejected", 1))
        self.assertEqual(result_of(lambda: bench.attempt([("take", 0), ("took", 0)])), ("BadEdit", 1))

    def test_attempts(self):
        bench = WonBench(self.program, (0,))
        bench.add(("pay", 5))
        bench.undo()
        self.assert_lost(bench, -2, lambda: bench.attempt([("take", 0)]))
        self.assert_lost(bench, -2, lambda: bench.attempt([("add", ("pay", 0)), ("take", 0)]))
        self.assertEqual(bench.redo(), 1)
        bench.undo()
        seen = []
        self.assertEqual(bench.attempt([("take", 0), ("change", 3, ("pay", -9)), ("change", 0, ("pay", 9))], watch=lambda held: seen.append((held.verdict(), len(held), held.edits()))), 3)
        items = (("take", 0), ("change", 3, ("pay", -9)), ("change", 0, ("pay", 9)))
        self.assertEqual(seen, [(-2, 1, (("attempt", items[:1]),)), (0, 1, (("attempt", items[:2]),)), (None, 1, (("attempt", items),))])
        self.assert_bench(bench, (("pay", 9), ("pay", -9)), (), 1)
        self.assert_raises(NothingToRedo, {}, bench.redo)

    def test_a_watch_that_ends_an_attempt(self):
        items = [("add", ("pay", 2)), ("take", 0), ("give", 0)]
        for most, wanted in ((1, 1), (3, 3)):
            bench = WonBench(self.program, (0,))
            self.assertEqual(bench.attempt(items, watch=lambda held: len(held.edits()[-1][1]) == most), wanted)
            self.assertEqual(bench.edits(), (("attempt", tuple(items[:wanted])),))
        bench = WonBench(self.program, (0,))
        bench.add(STOP)
        bench.undo()
        self.assert_lost(bench, -4, lambda: bench.attempt(items, watch=lambda held: len(held.edits()[-1][1]) == 2))
        self.assertEqual(bench.redo(), 1)

    def test_undo_and_redo_never_raise_it(self):
        source = random.Random(195)
        for _ in range(30):
            bench = WonBench(self.program, (0,))
            for _ in range(15):
                size = len(list(each_statement(bench.program)))
                name, *values = source.choice([random_item(source, size), ("undo",), ("redo",), ("give_fewest",), ("attempt", [("take", 0), ("add", random_value(source)), ("give", random_place(source, size))])])
                told = result_of(lambda: getattr(bench, name)(*values))
                if name in ("undo", "redo", "give_fewest"):
                    self.assertNotEqual(told[:1] if type(told) is tuple else told, ("Lost",))
                self.assertIsNone(bench.verdict())
                for version in range(len(bench) + 1):
                    self.assertIsNone(lost(gifted(*bench.state(version=version))))


if __name__ == "__main__":
    unittest.main()
