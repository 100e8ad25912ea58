import copy
import random
import re
import time
import unittest

from program_samples import PROGRAMS, all_programs, any_program, pays
from samples import EVEN, FULL, SMALL, STOP, WORDS, odd_values, random_program
from text_readings import slow_expression, slow_parse
from weandthey.errors import BadProgram, BadText
from weandthey.programs import program_error, turned
from weandthey.tables import worth_of
from weandthey.texts import parse_program, program_text

SIGNS = " \n()+-*<0123456789abnprtwxyzsetifory_,.;:=A|\"'#[]{}\\~"
FULL_TEXT = """program
set a ((-9 * n) + (n - 99))
if not a < -99
  pay a
  we
    stop
  or
    pass
else
  pay 0
repeat 2
  they
    pass
  or
    pay (9 * a)
    set n 0
if not not rest 5 of 6 n
  pass
stop"""


def text_of(*lines):
    return "\n".join(["program", *lines])


class TestExamples(unittest.TestCase):
    def test_there_and_back(self):
        program = (("set", "a", ("plus", "n", -1)), ("if", ("not", ("rest", "a", 3, 1)), (), (("pay", "a"),)), ("they", (("we", (), (("stop",),)),), ()))
        self.assertEqual(
            [program_text(program), parse_program(program_text(program)) == program],
            ['program\nset a (n + -1)\nif not rest 1 of 3 a\n  pass\nelse\n  pay a\nthey\n  we\n    pass\n  or\n    stop\nor\n  pass', True],
        )

    def test_brackets_must_stand_around_a_sum(self):
        with self.assertRaises(BadText) as caught:
            parse_program('program\npay n + 1')
        self.assertEqual(caught.exception.line, 1)

    def test_the_line_or_is_missing(self):
        with self.assertRaises(BadText) as caught:
            parse_program('program\nwe\n  pay n')
        self.assertEqual(caught.exception.line, 3)

    def test_no_program(self):
        with self.assertRaises(BadProgram) as caught:
            parse_program('program\nrepeat 9\n  stop')
        self.assertEqual(caught.exception.error, (0, 'statement'))


class TestProgramText(unittest.TestCase):
    def test_known_texts(self):
        self.assertEqual(program_text(()), "program")
        self.assertEqual(program_text(FULL), FULL_TEXT)
        self.assertEqual(program_text((("if", EVEN, (), ()),)), text_of("if rest 0 of 2 n", "  pass"))
        self.assertEqual(program_text((("if", SMALL, (STOP,), ()), STOP)), text_of("if n < 1", "  stop", "stop"))
        self.assertEqual(program_text((("if", SMALL, (), (STOP,)), STOP)), text_of("if n < 1", "  pass", "else", "  stop", "stop"))
        self.assertEqual(program_text((("we", (), ()),)), text_of("we", "  pass", "or", "  pass"))
        self.assertEqual(program_text((("repeat", 8, ()),)), text_of("repeat 8", "  pass"))
        self.assertEqual(program_text(pays(-99, 0, ("minus", -1, -2), ("times", 0, "n"))), text_of("pay -99", "pay 0", "pay (-1 - -2)", "pay (0 * n)"))

    def test_deeper_expressions(self):
        program = pays(("plus", ("plus", "n", 1), 1))
        self.assertEqual(program_text(turned(program)), text_of("pay (-1 * ((n + 1) + 1))"))

    def test_there_and_back(self):
        seen = {}
        for program in all_programs(random.Random(180), 400):
            before = copy.deepcopy(program)
            text = program_text(program)
            self.assertIs(type(text), str)
            self.assertEqual(parse_program(text), program)
            self.assertEqual(slow_parse(text), ("program", program))
            self.assertEqual(program_text(program), text)
            self.assertEqual(seen.setdefault(text, program), program)
            self.assertEqual(program, before)

    def test_results_are_plain(self):
        def assert_plain(value):
            self.assertIn(type(value), (tuple, str, int))
            for item in value if type(value) is tuple else ():
                assert_plain(item)
        for program in all_programs(random.Random(181), 50):
            assert_plain(parse_program(program_text(program)))


class TestParseProgram(unittest.TestCase):
    def assert_parsed(self, value):
        """Assert that a value is taken as the slow reading takes it; return how."""
        word, wanted = slow_parse(value)
        with self.subTest(str(value)[-300:]):
            if word == "program":
                self.assertEqual(parse_program(value), wanted)
                self.assertEqual(program_text(wanted), value)
            elif word == "text":
                with self.assertRaises(BadText) as caught:
                    parse_program(value)
                self.assertEqual(caught.exception.line, wanted)
            else:
                with self.assertRaises(BadProgram) as caught:
                    parse_program(value)
                self.assertEqual(caught.exception.error, wanted)
        return word

    def assert_bad_line(self, line, *lines):
        with self.assertRaises(BadText) as caught:
            parse_program(text_of(*lines))
        self.assertEqual(caught.exception.line, line, lines)
        self.assertEqual(self.assert_parsed(text_of(*lines)), "text")

    def assert_bad_program(self, error, *lines):
        with self.assertRaises(BadProgram) as caught:
            parse_program(text_of(*lines))
        self.assertEqual(caught.exception.error, error, lines)
        self.assertEqual(self.assert_parsed(text_of(*lines)), "error")

    def assert_good(self, program, *lines):
        self.assertEqual(parse_program(text_of(*lines)), program)
        self.assertEqual(self.assert_parsed(text_of(*lines)), "program")

    def test_values_that_are_no_texts(self):
        lines = worth_of(pays("n"))
        for value in odd_values() + [(), ("program",), FULL, [FULL_TEXT], b"program", {"program": 1}, lines, lines.rows]:
            if type(value) is str:
                continue
            before = copy.deepcopy(value)
            with self.assertRaises(BadText) as caught:
                parse_program(value)
            self.assertIsNone(caught.exception.line)
            self.assertTrue(value == before)

    def test_texts_of_every_kind(self):
        for value in odd_values() + ["", " ", "program ", " program", "Program", "PROGRAM", "program\r", "programs", "\nprogram", "pay n", "pass", "stop\nprogram"]:
            if type(value) is str:
                self.assertEqual(self.assert_parsed(value), "program" if value == "program\nstop" else "text")
        with self.assertRaises(BadText) as caught:
            parse_program("")
        self.assertEqual(caught.exception.line, 0)

    def test_empty_lines(self):
        self.assert_good(())
        self.assert_bad_line(1, "")
        self.assert_bad_line(1, "", "stop")
        self.assert_bad_line(2, "stop", "")
        self.assert_bad_line(2, "stop", "", "")
        self.assert_bad_line(2, "we", "", "  stop", "or", "  stop")
        self.assert_bad_line(2, "stop", " ")
        self.assert_bad_line(2, "stop", "  ")
        self.assert_bad_line(4, "we", "  stop", "or", "")

    def test_line_ends_and_tabs(self):
        self.assert_bad_line(1, "stop\r", "stop")
        self.assert_bad_line(1, "\tstop")
        self.assert_bad_line(2, "repeat 2", "\tstop")
        self.assert_bad_line(1, "pay\tn")
        self.assert_bad_line(1, "stop\x0bstop")
        self.assert_bad_line(1, "stop\x0cstop")
        self.assert_bad_line(1, "stop\u2028stop")
        for end in ("\r\n", "\r", "\v", "\f", "\x1c", "\x85", "\u2029"):
            self.assertEqual(self.assert_parsed(FULL_TEXT.replace("\n", end)), "text")
            self.assertEqual(self.assert_parsed(FULL_TEXT + end), "text")

    def test_missing_lines(self):
        self.assert_bad_line(2, "we")
        self.assert_bad_line(3, "we", "  stop")
        self.assert_bad_line(4, "we", "  stop", "or")
        self.assert_bad_line(2, "if n < 1")
        self.assert_bad_line(4, "if n < 1", "  stop", "else")
        self.assert_bad_line(2, "repeat 3")
        self.assert_bad_line(4, "repeat 3", "  repeat 3", "    repeat 3")
        self.assert_bad_line(4, "we", "  they", "    stop")
        self.assert_bad_line(6, "we", "  they", "    stop", "  or", "    stop")
        self.assert_bad_line(2, "we", "stop")
        self.assert_bad_line(2, "we", "or", "  stop")
        self.assert_bad_line(3, "we", "  stop", "stop")
        self.assert_bad_line(3, "we", "  stop", "we")
        self.assert_bad_line(4, "we", "  stop", "or", "stop")
        self.assert_bad_line(2, "repeat 3", "stop")
        self.assert_bad_line(5, "repeat 2", "  we", "    stop", "  or", "stop")
        self.assert_bad_line(4, "repeat 2", "  we", "    stop", "stop")
        self.assert_bad_line(4, "we", "  we", "    stop", "or")

    def test_pass(self):
        self.assert_bad_line(1, "pass")
        self.assert_bad_line(2, "stop", "pass")
        self.assert_bad_line(3, "repeat 2", "  pass", "pass")
        self.assert_bad_line(3, "repeat 2", "  pass", "  pass")
        self.assert_bad_line(3, "repeat 2", "  pass", "  stop")
        self.assert_bad_line(3, "repeat 2", "  pass", "  we")
        self.assert_bad_line(3, "repeat 2", "  stop", "  pass")
        self.assert_bad_line(4, "if n < 1", "  stop", "else", "  pass")
        self.assert_bad_line(5, "if n < 1", "  stop", "else", "  stop", "  pass")
        self.assert_bad_line(5, "we", "  stop", "or", "  pass", "  stop")
        self.assert_bad_line(2, "repeat 2", "    pass")
        self.assert_bad_line(2, "repeat 2", "  pass ")
        self.assert_good((("if", SMALL, (), (STOP,)),), "if n < 1", "  pass", "else", "  stop")
        self.assert_good((("we", (), ()), STOP), "we", "  pass", "or", "  pass", "stop")

    def test_else_and_or(self):
        self.assert_bad_line(1, "else")
        self.assert_bad_line(1, "or")
        self.assert_bad_line(2, "stop", "or")
        self.assert_bad_line(2, "if n < 1", "else")
        self.assert_bad_line(3, "if n < 1", "  stop", "or")
        self.assert_bad_line(3, "we", "  stop", "else")
        self.assert_bad_line(3, "repeat 2", "  stop", "else")
        self.assert_bad_line(3, "repeat 2", "  stop", "or")
        self.assert_bad_line(5, "if n < 1", "  stop", "else", "  stop", "else")
        self.assert_bad_line(5, "we", "  stop", "or", "  stop", "or")
        self.assert_bad_line(4, "we", "  stop", "or", "or")
        self.assert_bad_line(3, "we", "  stop", "  or", "  stop")
        self.assert_bad_line(3, "we", "  stop", " or", "  stop")
        self.assert_bad_line(3, "we", "  stop", "or ", "  stop")
        self.assert_bad_line(3, "if n < 1", "  stop", "else ", "  stop")
        self.assert_bad_line(4, "if n < 1", "  we", "    stop", "else")
        self.assert_bad_line(3, "if n < 1", "  stop", "else n < 2")
        self.assert_bad_line(5, "if n < 1", "  if n < 2", "    stop", "  else", "else")
        self.assert_good((("if", SMALL, (("if", EVEN, (STOP,), ()),), (STOP,)),), "if n < 1", "  if rest 0 of 2 n", "    stop", "else", "  stop")
        self.assert_good((("if", SMALL, (("if", EVEN, (STOP,), (STOP,)),), ()),), "if n < 1", "  if rest 0 of 2 n", "    stop", "  else", "    stop")

    def test_blanks_ahead(self):
        for line in (" stop", "  stop", "   stop", "    stop"):
            self.assert_bad_line(1, line)
            self.assert_bad_line(2, "stop", line)
        for line in ("stop", " stop", "   stop", "    stop"):
            self.assert_bad_line(2, "repeat 2", line)
        self.assert_bad_line(0 + 3, "repeat 2", "  stop", "    stop")
        self.assert_bad_line(3, "repeat 2", "  stop", " stop")
        self.assert_good((("repeat", 2, (STOP,)), STOP), "repeat 2", "  stop", "stop")

    def test_blanks_within(self):
        for line in ("pay  n", "pay n ", "pay", "pay ", "pay(n + 1)", "pay (n +1)", "pay (n+ 1)", "pay (n+1)", "pay ( n + 1)", "pay (n + 1 )", "pay (n  + 1)",
                     "set a", "set a ", "set  a n", "set a  n", "set a n ", "set n", "set (n) 1", "set 1 n", "set a n n", "set", "set  n", "seta n", "stop ", "stop n",
                     "stops", "Stop", "we ", "we n", "theywe", "they we", "repeat", "repeat ", "repeat n", "repeat 2 ", "repeat  2", "repeat 2 3", "repeat (2)", "repeat2",
                     "if", "if ", "if n", "if n <", "if n < ", "if n <1", "if n< 1", "if n<1", "if n  < 1", "if n <  1", "if n < 1 ", "if  n < 1", "if n < 1 < 2",
                     "if (n < 1)", "if n > 1", "if n = 1", "if not", "if not ", "if not  n < 1", "if notn < ", "if not(n < 1)", "if < 1", "if  < 1",
                     "if rest", "if rest 1", "if rest 1 of", "if rest 1 of 2", "if rest 1 of 2 ", "if rest 1 of 2  n", "if rest  1 of 2 n", "if rest 1  of 2 n",
                     "if rest 1 of  2 n", "if rest 1 of 2 n ", "if rest n of 2 n", "if rest 1 of n n", "if rest 1 2 n", "if rest 1 of 2 n n", "if rest 1 of 2 of 3 n",
                     "if rest 1 of 2 n < 1", "if rest < 1", "if of < 1", "if n < not", "if not not", "if rest 1 of 2 not n < 1", "if stop", "else", "program", "pass n"):
            self.assert_bad_line(1, line)
            self.assert_bad_line(1, line, "  stop")

    def test_brackets_and_signs(self):
        for text in ("(n)", "((n + 1))", "n + 1", "(n + 1", "n + 1)", "(n + 1))", "((n + 1)", "(n + 1) + 1", "(n * 3)", "(n * n)", "((1 + 2) * n)", "(3 * 4 * n)", "(n + 1 + 2)",
                     "(3*n)", "3n", "()", "(", ")", ")(", "(+ n)", "(n +)", "(n + )", "( + n)", "(n / 2)", "(n % 2)", "(n ** 2)", "(n - - 1)", "(n -1)", "[n + 1]", "{n + 1}",
                     "(n, 1)", "n.a", "n n", "-n", "+n", "(-n + 1)", "(n + -a)", "n+1", "(n + 1)(", "(n + 1)n", "n(n + 1)", "3(n + 1)", "(n  1)", "(n 1)", "(n _ 1)"):
            self.assert_bad_line(1, "pay " + text)
            self.assert_bad_line(1, "set a " + text)
            self.assert_bad_line(1, "if " + text + " < 1", "  stop")
            self.assert_bad_line(1, "if 1 < " + text, "  stop")
            self.assert_bad_line(1, "if rest 1 of 3 " + text, "  stop")
            self.assert_bad_line(1, "pay (" + text + " + 1)")
            self.assert_bad_line(1, "pay (1 - " + text + ")")
            self.assert_bad_line(1, "pay (3 * " + text + ")")
            self.assertIsNone(slow_expression(text))
        self.assert_good(pays(("times", 3, ("times", -4, "n")), ("minus", 3, 4), ("plus", ("minus", "a", "b"), ("plus", -1, 0))),
                         "pay (3 * (-4 * n))", "pay (3 - 4)", "pay ((a - b) + (-1 + 0))")

    def test_integers(self):
        for word in ("00", "01", "-0", "-00", "-01", "+1", "+0", "--1", "-", "1-", "1_0", "1.0", "1.", "1e3", "0x1", "1,0", "\u0661", "\u00b2", "1 0", "9" * 21, "-" + "9" * 21, "0" * 20, "1" * 3000):
            for line in ("pay " + word, "set a " + word, "repeat " + word, "if n < " + word, "if " + word + " < n", "if rest " + word + " of 3 n", "if rest 1 of " + word + " n", "pay (" + word + " * n)", "pay (n + " + word + ")"):
                self.assert_bad_line(1, line, "  stop")
        for word in ("100", "-100", "9" * 20, "-" + "9" * 20, "1" + "0" * 19, "123456789"):
            for line in ("pay " + word, "set a " + word, "pay (n + " + word + ")", "pay (" + word + " * n)"):
                self.assert_bad_program((0, "statement"), line)
            for line in ("repeat " + word, "if n < " + word, "if rest " + word + " of 3 n", "if rest 1 of " + word + " n"):
                self.assert_bad_program((0, "statement"), line, "  stop")
        for word in ("0", "-1", "10", "-10", "99"):
            self.assert_good(pays(int(word)), "pay " + word)
        self.assert_bad_program((1, "statement"), "repeat 8", "  repeat 0", "    stop")
        self.assert_bad_program((1, "statement"), "repeat 8", "  repeat -1", "    stop")
        self.assert_bad_program((0, "statement"), "if rest -1 of 3 n", "  stop")
        self.assert_bad_program((0, "statement"), "if rest 3 of 3 n", "  stop")
        self.assert_bad_program((0, "statement"), "if rest 0 of 7 n", "  stop")
        self.assert_bad_program((0, "statement"), "pay (10 * n)")

    def test_names(self):
        for word in ("abcdefghi", "a" * 3000, "A", "aB", "1a", "a_b", "_a", "a-b", "a.b", "", "\u00e9", "a\u00e9", "\u00df", *WORDS):
            for line in ("pay " + word, "set " + word + " 1", "set a " + word, "pay (n + " + word + ")", "pay (" + word + " - 1)", "pay (3 * " + word + ")", "if n < " + word, "if " + word + " < n", "if rest 1 of 3 " + word):
                self.assert_bad_line(1, line, "  stop")
        for word in ("abcdefgh", "a1234567", "z", "z9", "less", "plus", "n", "sets", "notn", "rests", "rest1", "not1", "pay1", "program1"[:8], "ifs", "ors", "elses"):
            self.assert_good((("set", word, word), ("pay", ("plus", word, word)), ("if", ("less", word, word), (STOP,), ())), f"set {word} {word}", f"pay ({word} + {word})", f"if {word} < {word}", "  stop")

    def test_depths(self):
        for build in ("(n + {})", "({} - n)", "(3 * {})", "({0} + {0})"):
            text = "n"
            for deep in range(2, 23):
                if deep > 12 and "{0}" in build:
                    break
                text = build.replace("{0}", text).replace("{}", text)
                if deep <= 3:
                    self.assertIsNone(program_error(parse_program(text_of("pay " + text))))
                elif deep <= 20:
                    self.assert_bad_program((0, "statement"), "pay " + text)
                    self.assert_bad_program((0, "statement"), "if 1 < " + text, "  stop")
                else:
                    self.assert_bad_line(1, "pay " + text)
                    self.assert_bad_line(1, "set a " + text)
                    self.assert_bad_line(1, "if " + text + " < 1", "  stop")
                    self.assert_bad_line(1, "if rest 1 of 3 " + text, "  stop")

    def test_nots(self):
        for many in range(24):
            for test in ("n < 1", "rest 1 of 3 n"):
                line = "if " + "not " * many + test
                if many <= 2:
                    self.assertEqual(self.assert_parsed(text_of(line, "  stop")), "program")
                elif many <= 20:
                    self.assert_bad_program((0, "statement"), line, "  stop")
                else:
                    self.assert_bad_line(1, line, "  stop")

    def test_bounds(self):
        self.assert_bad_program((None, "places"), *["stop"] * 25)
        self.assert_bad_program((None, "weight"), "repeat 8", *["  stop"] * 4)
        self.assert_bad_program((None, "choices"), "repeat 5", "  we", "    pass", "  or", "    pass")
        self.assert_bad_program((None, "rests"), *["if rest 1 of 2 n", "  stop"] * 3)
        self.assert_bad_program((None, "comparings"), *["if n < 1", "  stop"] * 3)
        self.assert_bad_program((4, "nest"), *["  " * at + "repeat 1" for at in range(5)], "          stop")
        self.assert_bad_program((2, "statement"), "stop", "repeat 2", "  repeat 99", "    pay 100")
        self.assert_bad_line(5, *["  " * at + "repeat 1" for at in range(4)], "stop")

    def test_wrong_lines_come_ahead_of_wrong_programs(self):
        self.assert_bad_line(3, "pay 100", "repeat 99", "stop")
        self.assert_bad_line(27, *["stop"] * 26, "stop ")
        self.assert_bad_line(3, "pay 100", "we")

    def test_thousands(self):
        start = time.perf_counter()
        for line in ("pay " + "(" * 5000, "pay " + "(n + " * 2000 + "n" + ")" * 2000, "pay " + ")" * 5000, "if " + "not " * 5000 + "n < 1", "pay " + "(3 * " * 2900, "pay " + "((n + n) + " * 900):
            self.assert_bad_line(1, line)
        for text, wanted in ((text_of(*["stop"] * 4000), (None, "places")), (text_of(*["repeat 1", "  stop"] * 1500), (None, "places"))):
            with self.assertRaises(BadProgram) as caught:
                parse_program(text)
            self.assertEqual(caught.exception.error, wanted)
        steep = ["  " * at + "repeat 1" for at in range(1200)]
        with self.assertRaises(BadText) as caught:
            parse_program(text_of(*steep))
        self.assertEqual(caught.exception.line, 1201)
        with self.assertRaises(BadProgram) as caught:
            parse_program(text_of(*steep, "  " * 1200 + "stop"))
        self.assertEqual(caught.exception.error, (4, "nest"))
        choices = ["  " * at + "we" for at in range(1000)] + ["  " * 1000 + "stop"]
        closings = [line for at in range(999, -1, -1) for line in ("  " * at + "or", "  " * at + "  pass")]
        with self.assertRaises(BadProgram) as caught:
            parse_program(text_of(*choices, *closings))
        self.assertEqual(caught.exception.error, (4, "nest"))
        with self.assertRaises(BadText) as caught:
            parse_program(text_of(*choices, *closings[:-1]))
        self.assertEqual(caught.exception.line, 3001)
        self.assertLess(time.perf_counter() - start, 5)

    def test_one_sign_otherwise(self):
        source = random.Random(182)
        seen = {"program": 0, "text": 0, "error": 0}
        for _ in range(4000):
            text = program_text(any_program(source))
            at = source.randrange(len(text) + 1)
            middle = source.choice(["", source.choice(SIGNS), source.choice(SIGNS) + text[at:at + 1], text[at:at + 1] * 2])
            seen[self.assert_parsed(text[:at] + middle + text[at + 1:])] += 1
        self.assertGreater(min(seen.values()), 40)

    def test_one_line_otherwise(self):
        source = random.Random(183)
        seen = {"program": 0, "text": 0, "error": 0}
        words = ["stop", "we", "they", "or", "else", "pass", "pay n", "pay 100", "repeat 2", "if n < 1", "", "program", "set a 1"]
        for _ in range(4000):
            lines = program_text(any_program(source)).split("\n")
            at, other = source.randrange(len(lines)), source.randrange(len(lines))
            pick = source.randrange(6)
            if pick == 0:
                del lines[at]
            elif pick == 1:
                lines.insert(at, lines[at])
            elif pick == 2:
                lines[at], lines[other] = lines[other], lines[at]
            elif pick == 3:
                lines.insert(at, "  " * source.randrange(4) + source.choice(words))
            elif pick == 4:
                lines[at] = source.choice(["", " ", "  ", "    "]) + lines[at].strip(" ")
            else:
                lines[at:] = []
            seen[self.assert_parsed("\n".join(lines))] += 1
        self.assertGreater(min(seen.values()), 15)

    def test_several_things_otherwise(self):
        source = random.Random(184)
        for _ in range(1500):
            text = program_text(random_program(source))
            for _ in range(source.randint(2, 4)):
                numbers = [match.span() for match in re.finditer("[0-9]+|[a-z]+|[-+*<]", text)]
                low, high = source.choice(numbers)
                text = text[:low] + source.choice(["7", "100", "-3", "a", "n", "we", "not n", "(n + 1)", "+", "*", "rest", "0"]) + text[high:]
            self.assert_parsed(text)

    def test_unlike_programs_have_unlike_texts(self):
        source = random.Random(185)
        seen = {}
        for _ in range(3000):
            program = random_program(source)
            self.assertEqual(seen.setdefault(program_text(program), program), program)
        self.assertEqual(len({program_text(program) for program in PROGRAMS.values()}), len(set(PROGRAMS.values())))


if __name__ == "__main__":
    unittest.main()
