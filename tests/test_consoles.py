import random
import unittest

from bench_samples import NESTED, THEIRS, start_of
from program_samples import FAR, pays
from samples import STOP, WORDS, odd_values
from weandthey.benches import Bench, WonBench
from weandthey.consoles import Console
from weandthey.errors import NoPlace, PlayError
from weandthey.gifts import gifted
from weandthey.lines import Lines
from weandthey.programs import each_statement
from weandthey.runs import run
from weandthey.texts import program_text
from weandthey.verdicts import lost
from weandthey.worths import worth

UNKNOWN = "unknown command"
LINES = Lines(((0, 1, None, None, (0, 0)),))


def theirs_of(program):
    return [place for place, _, statement in each_statement(program) if statement[0] == "they"]


def all_of(bench):
    versions = [bench.state(version=version) for version in range(len(bench) + 1)]
    return (bench.program, bench.gift, bench.edits(), versions, bench.undone)


class TestExample(unittest.TestCase):
    def test_example(self):
        console = Console(Bench((("they", (("pay", "n"),), (("pay", 2),)),)))
        self.assertEqual(
            [console.execute(line) for line in ('add pay (n + 1)', 'verdict', 'worth 7', 'run -3 1', 'give 0', 'give 0', 'given', 'verdict', 'add stop', 'run 4', 'text', 'run  4')],
            ['ok 1', 'lost -1', '10', '0, they 1', 'ok 2', 'error IsGiven', '0', 'lost -4', 'ok 3', '9, we 0', 'program | they |   pay n | or |   pay 2 | pay (n + 1) | stop', 'unknown command'],
        )


class TestConsole(unittest.TestCase):
    def assert_unknown(self, *lines):
        for kind in (Bench, WonBench):
            bench = kind((THEIRS, ("pay", 50)), (0,))
            bench.add(STOP)
            bench.undo()
            before = all_of(bench)
            console = Console(bench)
            for line in lines:
                with self.subTest(str(line)[:80]):
                    self.assertEqual(console.execute(line), UNKNOWN)
                    self.assertEqual(all_of(bench), before)
            self.assertEqual(console.execute("redo"), "ok 1")

    def assert_error(self, bench, line, name):
        before = all_of(bench)
        self.assertEqual(Console(bench).execute(line), "error " + name)
        self.assertEqual(all_of(bench), before)

    def test_values_that_are_no_texts(self):
        self.assert_unknown(*odd_values(), b"undo", ("undo",), ["undo"], LINES, None, True, 0, THEIRS)

    def test_it_is_the_very_bench(self):
        bench = Bench(NESTED, (3,))
        console, other = Console(bench), Console(bench)
        self.assertEqual([console.execute("drop 0"), other.execute("given"), other.execute("undo"), console.execute("given"), console.execute("redo")], ["ok 1", "2", "ok 0", "3", "ok 1"])
        self.assertEqual(bench.program, NESTED[1:])
        bench.undo()
        self.assertEqual(console.execute("given"), "3")

    def test_add(self):
        bench = Bench(())
        console = Console(bench)
        for at, (line, statement) in enumerate((("stop", STOP), ("pay n", ("pay", "n")), ("pay -99", ("pay", -99)), ("set a ((3 * n) - (n + 1))", ("set", "a", ("minus", ("times", 3, "n"), ("plus", "n", 1)))), ("set n 0", ("set", "n", 0)))):
            self.assertEqual(console.execute("add " + line), f"ok {at + 1}")
            self.assertEqual((bench[at], bench.edits()[at]), (statement, ("add", statement)))

    def test_add_in_the_wide_sense(self):
        bench = Bench(NESTED)
        for line in ("pay 100", "pay -100", "pay " + "9" * 20, "pay -" + "9" * 20, "set a (10 * n)", "pay (n + (n + (n + n)))", "pay " + "(n + " * 19 + "n" + ")" * 19, "set abcdefgh 12345"):
            self.assert_error(bench, "add " + line, "BadProgram")
        self.assert_error(Bench((STOP,) * 24), "add stop", "BadProgram")
        self.assert_unknown("add pay " + "9" * 21, "add pay " + "(n + " * 20 + "n" + ")" * 20, "add set abcdefghi 1", "add pay -0", "add pay 01", "add pay +1", "add pay " + "(" * 2900)

    def test_add_of_other_lines(self):
        self.assert_unknown("add", "add ", "add  stop", "add stop ", " add stop", "addstop", "add stop\n", "add stop\nstop", "add pay n\npay n", "add pay", "add pay ", "add set", "add set a", "add set pay 1", "add pay n + 1",
                            "add pay (n+1)", "add if n < 1", "add if", "add we", "add they", "add repeat 2", "add repeat 2\n  stop", "add else", "add or", "add pass", "add program", "add program\nstop", "add add stop", "add   stop",
                            "add \tstop", "add stop\r", "add Stop", "add ('stop',)", "add pay \u0661", "ADD stop", "Add stop", "add we\n  stop\nor\n  stop", *["add pay " + word for word in WORDS])

    def test_drop_give_and_take(self):
        bench = Bench(NESTED, (3,))
        console = Console(bench)
        self.assertEqual([console.execute(line) for line in ("give 9", "take 3", "drop 1", "given", "drop 0", "given")], ["ok 1", "ok 2", "ok 3", "4", "ok 4", "3"])
        self.assertEqual(bench.edits(), (("give", 9), ("take", 3), ("drop", 1), ("drop", 0)))
        bench = Bench(NESTED, (3,))
        for word in ("drop", "give", "take"):
            for number in ("12", "-1", "99", "9" * 40, "-" + "9" * 40):
                self.assert_error(bench, f"{word} {number}", "NoPlace")
        self.assert_error(bench, "give 0", "NotTheirs")
        self.assert_error(bench, "give 3", "IsGiven")
        self.assert_error(bench, "take 1", "NotGiven")
        self.assert_error(bench, "take 0", "NotGiven")

    def test_numbers(self):
        for word in ("drop", "give", "take", "worth", "run"):
            wrong = ["", " ", "00", "01", "-0", "+0", "+1", "--1", "-", "1-", "1.0", "1_0", "0x1", "x", "n", "True", "None", "1 ", " 1", "1\n", "\n1", "9" * 41, "-" + "9" * 41, "0" * 40, "\u0661", "\u00b2", "1,", "(1)", "'1'", "1\t", "- 1", "1 2"]
            self.assert_unknown(word, *[f"{word} {number}" for number in wrong], word + "  1", word + "1", " " + word + " 1", word.upper() + " 1", word + "\t1", word + "\n1")
        bench = Bench(pays("n"))
        console = Console(bench)
        for number in (0, 5, -5, 10 ** 39, 10 ** 40 - 1, -(10 ** 40) + 1):
            self.assertEqual(console.execute(f"worth {number}"), str(number))
            self.assertEqual(console.execute(f"run {number}"), str(number))

    def test_fewest_undo_and_redo(self):
        bench = Bench((THEIRS, ("pay", 1)), ())
        console = Console(bench)
        self.assertEqual([console.execute(line) for line in ("fewest", "given", "undo", "given", "redo", "given", "take 0", "undo", "redo")], ["ok 1", "0", "ok 0", "none", "ok 1", "0", "ok 2", "ok 1", "ok 2"])
        self.assert_error(Bench(pays(-1)), "fewest", "NoGift")
        self.assert_error(Bench(()), "undo", "NothingToUndo")
        self.assert_error(Bench(()), "redo", "NothingToRedo")
        self.assert_unknown("undo ", " undo", "undo 1", "undo undo", "undos", "Undo", "undo\n", "redo ", "redo 1", "fewest ", "fewest 0", "give_fewest", "give fewest", "change 0 stop", "attempt", "")

    def test_too_many_edits(self):
        bench = Bench((THEIRS,))
        console = Console(bench)
        for at in range(60):
            self.assertEqual(console.execute("take 0" if at % 2 else "give 0"), f"ok {at + 1}")
        for line in ("give 0", "take 0", "drop 0", "drop 99", "add stop", "add pay 100", "fewest"):
            self.assert_error(bench, line, "TooManyEdits")
        self.assert_error(bench, "redo", "NothingToRedo")
        self.assertEqual(console.execute("undo"), "ok 59")

    def test_lost(self):
        bench = WonBench((THEIRS, ("pay", 1)), (0,))
        for line in ("take 0", "add pay -2", "add pay (n + -2)"):
            self.assert_error(bench, line, "Lost")
        self.assert_error(bench, "take 3", "NotGiven")
        self.assertEqual(Console(bench).execute("add pay 1"), "ok 1")

    def test_text_and_given(self):
        self.assertEqual(Console(Bench(())).execute("text"), "program")
        console = Console(Bench(NESTED, (1, 3, 9)))
        self.assertEqual(console.execute("given"), "1, 3, 9")
        self.assertEqual(console.execute("text"), "program | pay 3 | they |   pay n | or |   they |     stop |   or |     pay 2 | if n < 1 |   pass | else |   they |     pass |   or |     pass | repeat 1 |   they |     pass |   or |     pass |   pay 4 | stop")
        self.assertEqual(console.execute("given"), "1, 3, 9")
        self.assertEqual(Console(Bench(NESTED)).execute("given"), "none")
        self.assert_unknown("text ", "text 1", "texts", "given ", "given 0", "giv", "verdict ", "verdict 1", "verdicts", "won", "lost", "none", "ok", "help", "error", "str", "len", "state", "edits", "told 1", "outcome 1", "program")

    def test_questions_of_random_benches(self):
        source = random.Random(210)
        for _ in range(150):
            program, gift = start_of(source, theirs_of)
            bench = Bench(program, gift)
            bench.add(STOP) if len(program) < 20 and source.randrange(2) and len(list(each_statement(program))) < 24 else None
            if len(bench):
                bench.undo()
            before = all_of(bench)
            console, given = Console(bench), gifted(program, gift)
            number = lost(given)
            self.assertEqual(console.execute("verdict"), "won" if number is None else f"lost {number}")
            self.assertEqual(console.execute("text"), program_text(program).replace("\n", " | "))
            self.assertEqual(console.execute("given"), ", ".join(str(place) for place in gift) or "none")
            for number in (0, source.randint(-99, 99), source.randint(-(10 ** 40) + 1, 10 ** 40 - 1)):
                self.assertEqual(console.execute(f"worth {number}"), str(worth(given, number)))
                turns = [source.randrange(2) for _ in range(source.choice([0, 1, 2, 4, 40]))]
                total, made, hands = run(given, number, tuple(turns))
                wanted = str(total) + "".join(f", {hand} {turn}" for hand, turn in zip(hands, made))
                self.assertEqual(console.execute(" ".join(["run", str(number), *map(str, turns)])), wanted)
            self.assertEqual(all_of(bench), before)

    def test_run(self):
        console = Console(Bench((THEIRS, ("we", (), (("pay", 1), STOP)), THEIRS)))
        self.assertEqual([console.execute(line) for line in ("run 5", "run 5 1", "run 5 1 1", "run 5 0 0 1", "run -5 0 1 1 1 1", "run 0 0 0 0 0 0 0 0")],
                         ["10, they 0, we 0, they 0", "5, they 1, we 0, they 0", "1, they 1, we 1", "5, they 0, we 0, they 1", "-4, they 0, we 1", "0, they 0, we 0, they 0"])
        self.assertEqual(Console(Bench(pays(7))).execute("run 1 0 1 0"), "7")
        self.assert_unknown("run", "run ", "run 5 ", "run 5 2", "run 5 0 ", "run 5  0", "run 5 -1", "run 5 00", "run 5 01", "run 5 +1", "run 5 1\n", "run 5 0,1", "run 5 (0, 1)", "run 0 0 0 x", "run 5 True", "run n", "run 5 we", "runs 5", "run\n5", "run 5\n1")

    def test_numbers_of_many_digits(self):
        grown = (("repeat", 8, (("set", "n", ("times", 9, ("times", 9, "n"))),)), ("pay", "n"))
        number = FAR // 10 ** 20
        self.assertEqual(len(str(number)), 40)
        self.assertEqual(Console(Bench(grown)).execute(f"worth {number}"), str(number * 81 ** 8))
        far = (("set", "a", 1), ("repeat", 8, (("set", "a", ("times", 9, ("times", 9, "a"))),)), ("pay", ("plus", "a", "n")))
        self.assertEqual(Console(Bench(far)).execute("verdict"), f"lost {-(81 ** 8) - 1}")

    def test_every_error_of_a_bench_is_named(self):
        """Every error class that some edit raises is answered by its own name."""
        won = WonBench((THEIRS, ("pay", 1)), (0,))
        for line, bench in (("add pay 100", won), ("drop 9", won), ("give 3", won), ("give 0", won), ("take 1", won), ("take 0", won), ("undo", won), ("redo", won), ("fewest", Bench(pays(-1)))):
            with self.assertRaises((PlayError, NoPlace)) as caught:
                word, _, behind = line.partition(" ")
                action = {"add": lambda: bench.add(("pay", 100)), "fewest": bench.give_fewest, "undo": bench.undo, "redo": bench.redo}.get(word, lambda: getattr(bench, word)(int(behind)))
                action()
            self.assert_error(bench, line, type(caught.exception).__name__)

    def test_answers_are_texts(self):
        console = Console(Bench(NESTED))
        for line in ("text", "given", "verdict", "worth 1", "run 1", "undo", "give 1", "what", None):
            self.assertIs(type(console.execute(line)), str)


if __name__ == "__main__":
    unittest.main()
