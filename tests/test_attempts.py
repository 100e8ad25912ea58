import random
import unittest

from bench_readings import SlowBench
from bench_samples import NESTED, NO_STATEMENTS, THEIRS, random_items, result_of, slow_result_of, start_of
from program_samples import pays
from samples import STOP, odd_values
from weandthey.benches import Bench, WonBench
from weandthey.bounds import BATCH
from weandthey.consoles import Console
from weandthey.errors import BadEdit, BadEdits, Busy, Lost, NoPlace, NothingToRedo, PlayError, Rejected
from weandthey.gifts import gifted
from weandthey.lines import Lines
from weandthey.programs import each_statement
from weandthey.verdicts import lost

ITEMS = (("give", 1), ("drop", 0), ("add", STOP), ("change", 0, THEIRS))
LINES = Lines(((0, 1, None, None, (0, 0)),))


def theirs_of(program):
    return [place for place, _, statement in each_statement(program) if statement[0] == "they"]


def all_of(bench):
    versions = [bench.state(version=version) for version in range(len(bench) + 1)]
    return (bench.program, bench.gift, len(bench), bench.edits(), versions, str(bench), bench.undone)


def with_redo(kind=Bench, program=NESTED, gift=(3,)):
    """Return a bench with an edit that stands and one that was undone."""
    bench = kind(program, gift)
    bench.add(("pay", 5))
    bench.add(("pay", 6))
    bench.undo()
    return bench


class Truth:
    """A result of a watch that does something when it is asked whether it counts as true."""

    def __init__(self, action):
        self.action = action

    def __bool__(self):
        return self.action()


class Sized:
    """A result of a watch that counts as true by its length."""

    def __init__(self, many):
        self.many = many

    def __len__(self):
        return self.many


class OwnError(BaseException):
    pass


class TestItems(unittest.TestCase):
    def assert_unchanged(self, bench, action, *told):
        """Assert that an action raises this error, that all is as it was, and that redo is still possible."""
        before = all_of(bench)
        self.assertEqual(result_of(action), told)
        self.assertEqual(all_of(bench), before)
        self.assertIs(bench.busy, False)

    def test_lists_and_tuples(self):
        for items in (list(ITEMS), ITEMS):
            bench = Bench(NESTED, (3,))
            self.assertEqual(bench.attempt(items), 4)
            self.assertEqual(bench.edits(), (("attempt", ITEMS),))
            self.assertEqual((len(bench), bench.gift, bench.program), (1, (), (THEIRS, *NESTED[2:], STOP)))
            self.assertEqual(items, type(items)(ITEMS))
            self.assertEqual([bench.undo(), bench.state()], [0, (NESTED, (3,))])
            self.assertEqual([bench.redo(), bench.edits()], [1, (("attempt", ITEMS),)])

    def test_none(self):
        for items in ([], ()):
            for kind in (Bench, WonBench):
                bench = with_redo(kind, (THEIRS, ("pay", 2)), (0,))
                before = all_of(bench)
                self.assertEqual(bench.attempt(items), 0)
                self.assertEqual(bench.attempt(items, watch=lambda held: self.fail()), 0)
                self.assertEqual(all_of(bench), before)
                self.assertEqual(bench.redo(), 2)

    def test_number_of_items(self):
        self.assertEqual(BATCH, 20)
        bench = with_redo()
        self.assert_unchanged(bench, lambda: bench.attempt([("change", 0, STOP)] * 21), "BadEdits")
        self.assert_unchanged(bench, lambda: bench.attempt((None,) * 21), "BadEdits")
        self.assert_unchanged(bench, lambda: bench.attempt(((),) * 4000), "BadEdits")
        self.assertEqual(bench.attempt([("change", 0, STOP)] * 20), 20)
        self.assertEqual(len(bench), 2)

    def test_no_list(self):
        bench = with_redo()
        for value in odd_values() + [LINES, range(2), iter(()), {"give": 1}]:
            if type(value) is list and len(value) < 2:
                continue
            self.assert_unchanged(bench, lambda: bench.attempt(value), "BadEdits")
            self.assert_unchanged(bench, lambda: bench.attempt(value, watch=self.fail), "BadEdits")
        with self.assertRaises(BadEdits):
            bench.attempt(None)

    def test_items_of_wrong_kinds(self):
        bench = with_redo()
        wrong = odd_values() + [(), ("add",), ("add", STOP, STOP), ("drop",), ("drop", 0, 0), ("change", 0), ("change", 0, STOP, STOP), ("give",), ("give", 1, 1), ("take",), ("take", 1, 1),
                                ("give_fewest",), ("undo",), ("redo",), ("attempt", ()), ("Add", STOP), ("", 1), (None, 1), (["add"], STOP), (("add",), STOP), ["add", STOP], ["drop", 0], {"drop": 0},
                                "drop", ("drop 0",), (0, "drop"), (True, 0), STOP, (STOP,), LINES, (LINES, 0), ("add\n", STOP)]
        for value in wrong:
            self.assert_unchanged(bench, lambda: bench.attempt([value]), "BadEdit", 0)
            self.assert_unchanged(bench, lambda: bench.attempt([("drop", 0), value, None], watch=self.fail), "BadEdit", 1)
            self.assert_unchanged(bench, lambda: bench.attempt((("drop", 99), ("drop", 98), value)), "BadEdit", 2)
        with self.assertRaises(BadEdit):
            bench.attempt([None])

    def test_refused_items(self):
        bench = with_redo()
        refused = [("add", None), ("add", ("pay", 100)), ("drop", 99), ("drop", True), ("drop", None), ("change", 99, STOP), ("change", 0, None), ("give", 0), ("give", 3), ("give", [1]), ("take", 1), ("take", {})]
        refused += [("add", value) for value in odd_values()] + [("drop", value) for value in odd_values() if type(value) is not int] + [("add", value) for value in NO_STATEMENTS]
        for item in refused:
            self.assert_unchanged(bench, lambda: bench.attempt([item]), "Rejected", 0)
            self.assert_unchanged(bench, lambda: bench.attempt([("give", 1), ("take", 1), item, ("drop", 0)]), "Rejected", 2)
        with self.assertRaises(Rejected):
            bench.attempt([("drop", 99)])
        self.assert_unchanged(bench, lambda: bench.attempt([("drop", 0), ("drop", 12)]), "Rejected", 1)
        self.assert_unchanged(bench, lambda: bench.attempt([("give", 1), ("give", 1)]), "Rejected", 1)
        self.assertEqual(bench.redo(), 2)

    def test_a_watch_has_seen_the_items_ahead_of_a_refused_one(self):
        bench = with_redo()
        seen = []
        self.assert_unchanged(bench, lambda: bench.attempt([("give", 1), ("drop", 0), ("drop", 99)], watch=lambda held: seen.append(held.gift)), "Rejected", 2)
        self.assertEqual(seen, [(1, 3), (0, 2)])

    def test_without_regard_to_the_bound_of_edits(self):
        bench = Bench((THEIRS,))
        for at in range(59):
            bench.give(0) if at % 2 == 0 else bench.take(0)
        self.assertEqual(bench.attempt([("take", 0), ("give", 0)] * 10), 20)
        self.assertEqual(len(bench), 60)

    def test_the_list_is_copied(self):
        bench = Bench(NESTED)
        items = [("give", 1), ("give", 3), ("give", 7)]

        def watch(held):
            items.clear()
            items.append(("drop", 0))
        self.assertEqual(bench.attempt(items, watch=watch), 3)
        self.assertEqual((bench.gift, bench.edits()), ((1, 3, 7), (("attempt", (("give", 1), ("give", 3), ("give", 7))),)))
        self.assertEqual(items, [("drop", 0)])
        items = [("give", 9)]
        bench.attempt(items)
        items[0] = ("drop", 0)
        items.append(None)
        self.assertEqual(bench.edits()[1], ("attempt", (("give", 9),)))

    def test_against_a_second_reading(self):
        source = random.Random(200)
        seen = {}
        for at in range(400):
            program, gift = start_of(source, theirs_of)
            won = at % 3 == 0 and lost(gifted(program, gift)) is None
            bench, slow = (WonBench if won else Bench)(program, gift), SlowBench(program, gift, won)
            for _ in range(3):
                items = random_items(source, len(list(each_statement(bench.program))))
                most = source.choice([1, 2, 99])
                wanted = slow_result_of(lambda: slow.attempt(items, most))
                self.assertEqual(result_of(lambda: bench.attempt(items, watch=lambda held: len(held.edits()[-1][1]) >= most)), wanted)
                self.assertEqual((bench.state(), bench.edits()), (slow.state(), tuple(slow.done)))
                key = wanted[0] if type(wanted) is tuple else wanted
                seen[key] = seen.get(key, 0) + 1
        for key in (0, 1, 2, "Rejected"):
            self.assertGreater(seen[key], 5, key)


class TestWatches(unittest.TestCase):
    def test_called_after_each_item_with_the_very_bench(self):
        for kind in (Bench, WonBench):
            bench = with_redo(kind, (THEIRS, ("pay", 3)), (0,))
            seen = []

            def watch(held):
                self.assertIs(held, bench)
                seen.append((held.program, held.gift, len(held), held.edits()[-1], held.state(), held.state(version=1), held.state(version=2), bool(held), str(held)))
            items = (("add", ("pay", 9)), ("take", 0), ("drop", 0))
            self.assertEqual(bench.attempt(list(items), watch=watch), 3)
            start = (THEIRS, ("pay", 3), ("pay", 5))
            programs = [start + (("pay", 9),), start + (("pay", 9),), start[1:] + (("pay", 9),)]
            for at, (program, gift) in enumerate(zip(programs, [(0,), (), ()])):
                size = len(list(each_statement(program)))
                self.assertEqual(seen[at], (program, gift, 2, ("attempt", items[:at + 1]), (program, gift), (start, (0,)), (program, gift), True, f"{size} statements, {len(gift)} given, 2 edits"))
            self.assertEqual(len(seen), 3)

    def test_queries_within(self):
        bench = Bench((THEIRS,))
        seen = []

        def watch(held):
            seen.append((held.verdict(), held.told(-5), held.told(-5, version=0), held.told(-5, version=1), held.outcome(7, (1,)), held[0], held == Bench(held.program, held.gift), result_of(lambda: held.state(version=2)), result_of(lambda: held[99])))
        bench.attempt([("give", 0), ("add", ("pay", -1))], watch=watch)
        self.assertEqual(seen, [
            (None, 0, -5, 0, (0, (1,), ("we",)), THEIRS, True, ("NoVersion", 2), ("NoPlace", 99)),
            (0, -1, -5, -1, (-1, (1,), ("we",)), THEIRS, True, ("NoVersion", 2), ("NoPlace", 99))])

    def test_ending_at_any_item(self):
        for most in range(1, 5):
            for true in (True, 1, "no", [0], (None,), Sized(1), Truth(lambda: True), LINES):
                bench = with_redo()
                calls = []

                def watch(held):
                    calls.append(0)
                    return true if len(calls) == most else None
                self.assertEqual(bench.attempt(ITEMS, watch=watch), most)
                self.assertEqual((len(calls), len(bench), bench.edits()[1]), (most, 2, ("attempt", ITEMS[:most])))
                self.assertEqual(result_of(bench.redo), ("NothingToRedo",))
                self.assertEqual([bench.undo(), bench.program], [1, NESTED + (("pay", 5),)])
                self.assertEqual([bench.redo(), bench.edits()[1]], [2, ("attempt", ITEMS[:most])])
                self.assertEqual(len(calls), most)

    def test_results_that_count_as_false(self):
        for false in (None, False, 0, "", [], (), {}, Sized(0), Truth(lambda: False), Bench(())):
            bench = Bench(NESTED)
            self.assertEqual(bench.attempt(ITEMS, watch=lambda held: false), 4)

    def test_the_bench_itself_as_a_result(self):
        bench = Bench(NESTED)
        self.assertEqual(bench.attempt(ITEMS, watch=lambda held: held), 1)

    def test_asked_after_each_item_also_the_last(self):
        asked = []
        bench = Bench(NESTED)
        self.assertEqual(bench.attempt(ITEMS, watch=lambda held: Truth(lambda: bool(asked.append(len(held.edits()[-1][1]))))), 4)
        self.assertEqual(asked, [1, 2, 3, 4])

    def assert_propagates(self, error, watch, items=ITEMS, kind=Bench, **start):
        bench = with_redo(kind, **start)
        before = all_of(bench)
        with self.assertRaises(type(error)) as caught:
            bench.attempt(items, watch=watch)
        self.assertIs(caught.exception, error)
        self.assertEqual(all_of(bench), before)
        self.assertEqual(bench.redo(), 2)
        self.assertEqual(bench.attempt([("add", STOP)], watch=None), 1)

    def test_errors_propagate(self):
        for error in (KeyError("x"), ValueError(), TypeError(), StopIteration(), RecursionError(), KeyboardInterrupt(), SystemExit(), GeneratorExit(), OwnError(),
                      PlayError(), Busy(), Rejected(7), NoPlace(1), Lost(3), BadEdits(), BadEdit(0), NothingToRedo()):
            for most in range(1, 5):
                calls = []

                def fail():
                    calls.append(0)
                    if len(calls) == most:
                        raise error
                    return False
                self.assert_propagates(error, lambda held: fail())
                calls.clear()
                self.assert_propagates(error, lambda held: Truth(fail))
        error = KeyError("lost")

        def fail_late(held):
            if held.verdict() is not None:
                raise error
        self.assert_propagates(error, fail_late, [("take", 0)], WonBench, program=(THEIRS, ("pay", 3)), gift=(0,))

    def test_truth_that_is_none(self):
        bench = with_redo()
        before = all_of(bench)
        with self.assertRaises(TypeError):
            bench.attempt(ITEMS, watch=lambda held: Truth(lambda: None))
        with self.assertRaises(TypeError):
            bench.attempt(ITEMS, watch=lambda: None)
        self.assertEqual(all_of(bench), before)
        self.assertIs(bench.busy, False)

    def actions(self, bench):
        """Return all that is refused while a watch runs, with right and wrong values."""
        def set_item(place, statement):
            bench[place] = statement
        return [lambda: bench.add(STOP), lambda: bench.add(None), lambda: bench.drop(0), lambda: bench.drop(99), lambda: bench.change(0, STOP), lambda: bench.change(99, None), lambda: bench.give(1), lambda: bench.give(None),
                lambda: bench.take(3), lambda: bench.take(99), lambda: bench.give_fewest(), lambda: bench.undo(), lambda: bench.redo(), lambda: bench.attempt([]), lambda: bench.attempt([("drop", 0)]), lambda: bench.attempt(None),
                lambda: bench.attempt([None]), lambda: bench.attempt([("drop", 99)]), lambda: bench.attempt([("drop", 0)], watch=self.fail), lambda: bench.__iadd__(STOP), lambda: bench.__isub__(0), lambda: set_item(0, STOP), lambda: set_item(99, None)]

    def test_busy(self):
        for kind in (Bench, WonBench):
            bench = with_redo(kind, (("pay", 50), *NESTED[1:4]), (1, 3))
            other = kind((("pay", 1),))
            seen = []

            def try_all():
                before = all_of(bench)
                for action in self.actions(bench):
                    self.assertEqual(result_of(action), ("Busy",))
                    self.assertEqual(all_of(bench), before)
                seen.append(other.add(("pay", 1)))
                seen.append(other.attempt([("add", STOP), ("drop", 0)], watch=lambda held: result_of(lambda: bench.drop(0)) != ("Busy",)))
                other.undo()
                return False
            self.assertEqual(bench.attempt([("add", STOP), ("drop", 0)], watch=lambda held: try_all()), 2)
            self.assertEqual(bench.attempt([("add", STOP)], watch=lambda held: Truth(try_all)), 1)
            self.assertEqual(seen, [1, 2, 2, 2, 3, 2])
            self.assertEqual(len(bench), 3)
            self.assertEqual(bench.undo(), 2)

    def test_busy_at_sixty_edits(self):
        bench = Bench((THEIRS,))
        for at in range(59):
            bench.give(0) if at % 2 == 0 else bench.take(0)
        told = []
        bench.attempt([("take", 0)], watch=lambda held: told.extend(result_of(action) for action in self.actions(held)))
        self.assertEqual(set(told), {("Busy",)})
        self.assertEqual(result_of(bench.give_fewest), ("TooManyEdits",))

    def test_busy_that_a_watch_lets_through(self):
        bench = with_redo()
        before = all_of(bench)
        with self.assertRaises(Busy):
            bench.attempt(ITEMS, watch=lambda held: held.undo())
        self.assertEqual(all_of(bench), before)
        self.assertEqual(bench.redo(), 2)

    def test_not_busy_any_more(self):
        bench = Bench(NESTED)
        kept = []
        bench.attempt([("give", 1)], watch=kept.append)
        self.assertEqual(kept[0].give(3), 2)
        with self.assertRaises(ZeroDivisionError):
            bench.attempt([("give", 7)], watch=lambda held: 1 // 0)
        self.assertEqual(bench.give(7), 3)

    def test_a_console_asked_by_a_watch(self):
        bench = Bench((THEIRS, ("pay", 1)))
        console = Console(bench)
        told = []
        bench.attempt([("give", 0), ("drop", 3)], watch=lambda held: told.append([console.execute(line) for line in ("given", "verdict", "text", "worth -7", "run 3 1", "undo", "redo", "fewest", "add stop", "add pay 100", "drop 99", "give 0", "take 0", "what")]))
        text = "program | they |   pay n | or |   pay 0"
        self.assertEqual(told, [
            ["0", "won", text + " | pay 1", "1", "1, we 1", *["error Busy"] * 8, "unknown command"],
            ["0", "won", text, "0", "0, we 1", *["error Busy"] * 8, "unknown command"]])
        self.assertEqual(console.execute("undo"), "ok 0")

    def test_redo_goes_without_a_watch(self):
        bench = Bench(pays(1))
        calls = []
        bench.attempt([("add", STOP), ("add", STOP)], watch=calls.append)
        bench.undo()
        bench.redo()
        self.assertEqual(len(calls), 2)

    def test_lost_behind_a_watch(self):
        bench = with_redo(WonBench, (THEIRS, ("pay", 3)), (0,))
        before = all_of(bench)
        seen = []
        with self.assertRaises(Lost) as caught:
            bench.attempt([("take", 0), ("add", STOP)], watch=lambda held: seen.append(held.verdict()))
        self.assertEqual((caught.exception.number, seen), (-9, [-9, -9]))
        self.assertEqual(all_of(bench), before)
        self.assertEqual(bench.redo(), 2)


if __name__ == "__main__":
    unittest.main()
