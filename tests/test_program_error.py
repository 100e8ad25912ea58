import copy
import random
import unittest

from samples import EVEN, FULL, SMALL, STOP, WORDS, deep_value, nested, odd_values
from samples import random_block, slow_error, with_part_replaced
from weandthey.programs import program_error

WRONG = (0, "statement")


def pay_error(expression):
    """Return what is wrong with the expression, wherever one may stand."""
    found = [
        program_error((("pay", expression),)),
        program_error((("set", "a", expression),)),
        program_error((("if", ("less", expression, 0), (), ()),)),
        program_error((("if", ("less", 0, expression), (), ()),)),
        program_error((("if", ("not", ("rest", expression, 2, 0)), (), ()),)),
    ]
    assert found == found[:1] * 5, (expression, found)
    return found[0]


def error_of_test(test):
    return program_error((("if", test, (), ()),))


class TestExamples(unittest.TestCase):
    def test_example(self):
        self.assertEqual(
            [program_error((("we", (("pay", "n"),), ()), ("stop",))), program_error((("if", ("rest", "n", 2, 2), (), ()),)), program_error((("set", "pay", 1),)), program_error((("repeat", 5, (("they", (), ()),)),))],
            [None, (0, 'statement'), (0, 'statement'), (None, 'choices')],
        )

    def test_deepest_expression(self):
        self.assertIsNone(pay_error(("plus", ("plus", "n", 1), 1)))


class TestPrograms(unittest.TestCase):
    def test_none_for_programs(self):
        programs = [
            (),
            (STOP,),
            (("pay", "n"),),
            (("set", "a", 1),),
            (("if", SMALL, (), ()),),
            (("if", EVEN, (STOP,), (STOP, STOP)),),
            (("we", (), ()),),
            (("they", (STOP,), (("we", (), ()),)),),
            (("repeat", 3, ()),),
            FULL,
        ]
        for program in programs:
            with self.subTest(program):
                self.assertIsNone(program_error(program))

    def test_values_that_are_no_tuples(self):
        for value in odd_values() + [list(FULL), str(FULL)]:
            with self.subTest(str(value)[:60]):
                self.assertEqual(program_error(value), (None, "program"))

    def test_result_is_plain(self):
        for value in (3, (3,), (STOP,) * 25):
            error = program_error(value)
            self.assertIs(type(error), tuple)
            self.assertIs(type(error[1]), str)
        self.assertIs(type(program_error((STOP, 3))[0]), int)


class TestStatements(unittest.TestCase):
    def test_items_that_are_no_tuples(self):
        for value in odd_values():
            with self.subTest(str(value)[:60]):
                self.assertEqual(program_error((value,)), WRONG)
                self.assertEqual(program_error((STOP, ("we", (), (STOP, value)))), (3, "statement"))

    def test_words(self):
        for word in ("", "Stop", "halt", "stop ", "plus", "less", "else", "n", None, 0, True, [], {}, ("stop",), ["stop"]):
            with self.subTest(word):
                for rest in ((), (1,), ("n", 1), ((), ()), (SMALL, (), ())):
                    self.assertEqual(program_error(((word, *rest),)), WRONG)
        self.assertEqual(program_error(((),)), WRONG)

    def test_number_of_items(self):
        for whole in (STOP, ("pay", 1), ("set", "a", 1), ("we", (), ()), ("they", (), ()), ("repeat", 2, ()), ("if", SMALL, (), ())):
            with self.subTest(whole):
                self.assertIsNone(program_error((whole,)))
                self.assertEqual(program_error((whole[:-1],)), WRONG)
                for more in ((), 1, "n", None):
                    self.assertEqual(program_error(((*whole, more),)), WRONG)
                self.assertEqual(program_error((list(whole),)), WRONG)

    def test_items_of_another_kind(self):
        whole = [("pay", 1), ("set", "a", 1), ("we", (), ()), ("they", (), ()), ("repeat", 2, ()), ("if", SMALL, (), ())]
        for statement in whole:
            for at in range(1, len(statement)):
                for value in (None, True, False, [], {}, "N", ["n"], 10 ** 30, ((),), (1, 2)):
                    changed = (*statement[:at], value, *statement[at + 1:])
                    with self.subTest(changed):
                        self.assertEqual(program_error((changed,)), slow_error((changed,)))
                        self.assertIsNotNone(program_error((changed,)))

    def test_blocks_are_tuples(self):
        for block in ([], [STOP], {}, "", "stop", None, 0, True):
            for statement in (("we", block, ()), ("we", (), block), ("they", block, ()), ("they", (), block),
                              ("repeat", 2, block), ("if", SMALL, block, ()), ("if", SMALL, (), block)):
                with self.subTest(statement):
                    self.assertEqual(program_error((STOP, statement, None)), (1, "statement"))

    def test_a_statement_is_not_at_fault_for_what_is_in_its_blocks(self):
        self.assertEqual(program_error((("we", (), (STOP, "x")),)), (2, "statement"))
        self.assertEqual(program_error((("if", SMALL, (("pay", 100),), ("x",)),)), (1, "statement"))
        self.assertEqual(program_error((("if", SMALL, (), (("repeat", 1, ((),)),)),)), (2, "statement"))
        self.assertEqual(program_error((("they", (("x",),), []),)), (0, "statement"))

    def test_times(self):
        for times in range(1, 9):
            self.assertIsNone(program_error((("repeat", times, ()),)))
        for times in (0, -1, 9, 10 ** 40, True, False, None, "2", "n", (2,), [2]):
            with self.subTest(times):
                self.assertEqual(program_error((("repeat", times, ()),)), WRONG)


class TestNames(unittest.TestCase):
    def assert_name(self, name, error):
        with self.subTest(name):
            self.assertEqual(program_error((("set", name, 1),)), error)
            self.assertEqual(pay_error(name), error)

    def test_names(self):
        for name in ("n", "a", "z", "a0", "z9", "abcdefgh", "a1234567", "sets", "pays", "wes", "plus", "minus", "times", "less"):
            self.assert_name(name, None)

    def test_lengths(self):
        for name in ("", "a" * 9, "a" * 3000):
            self.assert_name(name, WRONG)

    def test_the_fourteen_words(self):
        self.assertEqual(len(WORDS), 14)
        for word in WORDS:
            self.assert_name(word, WRONG)

    def test_signs(self):
        for code in list(range(32, 127)) + [10]:
            sign = chr(code)
            letter, digit = "a" <= sign <= "z", "0" <= sign <= "9"
            self.assert_name(sign, None if letter else WRONG)
            self.assert_name(sign + "b", None if letter else WRONG)
            self.assert_name("b" + sign, None if letter or digit else WRONG)
            self.assert_name("b" + sign + "b", None if letter or digit else WRONG)
        for name in ("\u00e4", "a\u00e4", "a\u0663", "\u0663"):
            self.assert_name(name, WRONG)

    def test_what_is_set_is_a_name(self):
        for value in (1, None, True, ("n",), ["n"], ("plus", "n", 1), {}):
            self.assertEqual(program_error((("set", value, 1),)), WRONG)


class TestExpressions(unittest.TestCase):
    def test_integers(self):
        for value in (-99, -1, 0, 1, 99):
            self.assertIsNone(pay_error(value))
        for value in (-100, 100, 10 ** 59, True, False, None):
            self.assertEqual(pay_error(value), WRONG)

    def test_factors(self):
        for factor in range(-9, 10):
            self.assertIsNone(pay_error(("times", factor, "n")))
        for factor in (-10, 10, 10 ** 59, True, False, None, "n", "a", (1,), ("plus", 1, 1)):
            self.assertEqual(pay_error(("times", factor, "n")), WRONG)

    def test_forms(self):
        for value in (("plus", 1), ("plus", 1, 2, 3), ("plus",), ("minus", 1), ("minus", 1, 2, 3), ("times", 2),
                      ("times", 2, 3, 4), ("over", 1, 2), (), (1,), ("n",), ["plus", 1, 2], ["n"], [], {}, SMALL,
                      ("less", 1, 2), (None, 1, 2), (["plus"], 1, 2), (("plus",), 1, 2), ({}, 1, 2), (1, 1, 1)):
            with self.subTest(value):
                self.assertEqual(pay_error(value), WRONG)
        for word in ("plus", "minus", "times"):
            for wrong in (100, True, None, "pay", "", [], ("plus", 1)):
                self.assertEqual(pay_error((word, 1, wrong)), WRONG)
        for word in ("plus", "minus"):
            for wrong in (100, True, None, "pay", "", [], ("plus", 1)):
                self.assertEqual(pay_error((word, wrong, 1)), WRONG)

    def test_depth(self):
        builds = [
            lambda inner: ("plus", inner, 1),
            lambda inner: ("plus", 1, inner),
            lambda inner: ("minus", inner, "n"),
            lambda inner: ("minus", "n", inner),
            lambda inner: ("times", 2, inner),
            lambda inner: ("plus", inner, inner),
        ]
        for first in builds:
            for second in builds:
                self.assertIsNone(pay_error(first("n")))
                self.assertIsNone(pay_error(first(second("n"))))
                for third in builds:
                    self.assertEqual(pay_error(first(second(third("n")))), WRONG)
        for build in builds[:5]:
            for levels in (4, 10, 19):
                self.assertEqual(pay_error(deep_value(levels, build)), WRONG)


class TestTests(unittest.TestCase):
    def test_by_and_rest(self):
        for by in range(-1, 9):
            for rest in range(-2, 9):
                fits = 2 <= by <= 6 and 0 <= rest < by
                with self.subTest((by, rest)):
                    self.assertEqual(error_of_test(("rest", "n", by, rest)), None if fits else WRONG)
        for wrong in (True, False, None, "n", "2", [], (2,), 10 ** 40):
            self.assertEqual(error_of_test(("rest", "n", wrong, 0)), WRONG)
            self.assertEqual(error_of_test(("rest", "n", wrong, 1)), WRONG)
            self.assertEqual(error_of_test(("rest", "n", 2, wrong)), WRONG)

    def test_nots(self):
        for test in (SMALL, EVEN):
            for nots in range(21):
                with self.subTest(nots):
                    value = test
                    for _ in range(nots):
                        value = ("not", value)
                    self.assertEqual(error_of_test(value), None if nots <= 2 else WRONG)

    def test_forms(self):
        for test in ((), None, True, 1, "n", "less", [], {}, ["less", 1, 2], ("less",), ("less", 1), ("less", 1, 2, 3), ("rest", "n", 2),
                     ("rest", "n", 2, 0, 0), ("rest", 2, "n", 0), ("not",), ("not", SMALL, SMALL), ("not", 1), ("not", "n"),
                     ("not", ()), ("not", ["less", 1, 2]), ("more", 1, 2), ("plus", 1, 2), (["less"], 1, 2), (None, 1)):
            with self.subTest(test):
                self.assertEqual(error_of_test(test), WRONG)
                self.assertEqual(error_of_test(("not", test)), WRONG)


class TestNest(unittest.TestCase):
    def test_three_and_four(self):
        for word in ("we", "they"):
            self.assertIsNone(program_error(nested((STOP,), 3, word)))
            self.assertIsNone(program_error(nested((), 4, word)))
            self.assertEqual(program_error(nested((STOP,), 4, word)), (4, "nest"))
            self.assertEqual(program_error(nested((), 5, word)), (4, "nest"))
            self.assertEqual(program_error(nested((STOP,), 9, word)), (4, "nest"))

    def test_each_kind_of_block(self):
        arounds = [
            lambda block: (("if", SMALL, block, ()),),
            lambda block: (("if", SMALL, (), block),),
            lambda block: (("repeat", 1, block),),
            lambda block: (("we", (), block),),
            lambda block: (("they", block, ()),),
        ]
        for around in arounds:
            block = (STOP,)
            for levels in range(6):
                with self.subTest(levels):
                    found = program_error(block)
                    self.assertEqual(found, slow_error(block))
                    self.assertEqual(found == (4, "nest"), levels > 3)
                block = around(block)

    def test_nest_ahead_of_statement_for_one_place(self):
        for value in ("x", None, (), ("pay", 100), [], ("set",)):
            self.assertEqual(program_error(nested((value,), 4)), (4, "nest"))
            self.assertEqual(program_error(nested((value,), 3)), (3, "statement"))

    def test_whichever_place_is_first(self):
        high = nested((STOP,), 4)
        self.assertEqual(program_error((*high, "x")), (4, "nest"))
        self.assertEqual(program_error(("x", *high)), WRONG)
        self.assertEqual(program_error((STOP, *high, "x")), (5, "nest"))
        self.assertEqual(program_error(nested(("x", ("we", (STOP,), ())), 3)), (3, "statement"))
        self.assertEqual(program_error(nested((("we", (STOP,), ()), "x"), 3)), (4, "nest"))

    def test_faults_ahead_of_bounds(self):
        self.assertEqual(program_error((STOP,) * 30 + ("x",)), (30, "statement"))
        self.assertEqual(program_error((STOP,) * 30 + nested((STOP,), 4)), (34, "nest"))
        self.assertEqual(program_error((("repeat", 8, (("we", (), ()),) * 9), "x")), (10, "statement"))


class TestBounds(unittest.TestCase):
    def assert_met(self, most, word):
        """Expect the program to be one, and to pass just this bound with one statement more."""
        program, more = most
        self.assertIsNone(program_error(program))
        self.assertEqual(program_error(program + more), (None, word))

    def test_places(self):
        self.assert_met(((STOP,) * 24, (STOP,)), "places")
        self.assert_met((nested((STOP,) * 21, 3), (STOP,)), "places")
        self.assert_met((FULL + (STOP,) * 12, (STOP,)), "places")

    def test_weight(self):
        self.assert_met(((("repeat", 8, (STOP, STOP, STOP)), *((STOP,) * 5)), (STOP,)), "weight")
        self.assert_met(((("repeat", 7, (STOP, STOP, ("repeat", 1, (STOP,)))), STOP), (STOP,)), "weight")
        self.assert_met(((("repeat", 4, (("repeat", 6, (STOP,)),)), STOP), (STOP,)), "weight")
        self.assert_met(((("repeat", 2, (("repeat", 2, (("repeat", 5, (STOP,)),)),)), *((STOP,) * 3)), (STOP,)), "weight")

    def test_weight_of_both_blocks(self):
        for word in ("we", "they"):
            block = ((word, (STOP,) * 3, (STOP,) * 2),)
            self.assert_met(((("repeat", 4, block), *((STOP,) * 5)), (STOP,)), "weight")
        block = (("if", SMALL, (STOP,) * 9, (STOP,) * 4),)
        self.assert_met(((("repeat", 2, block), STOP), (STOP,)), "weight")

    def test_choices(self):
        for one in ("we", "they"):
            for other in ("we", "they"):
                self.assert_met((((one, (), ()),) * 3 + ((other, (), ()),), ((one, (), ()),)), "choices")
        self.assert_met((nested((("we", (), ()),), 3), (("we", (), ()),)), "choices")
        self.assert_met((((("we", (("they", (), ()),), (("we", (), ()), ("they", (), ()))),)), (("they", (), ()),)), "choices")
        self.assert_met(((("repeat", 4, (("we", (), ()),)),), (("we", (), ()),)), "choices")
        self.assert_met(((("repeat", 2, (("repeat", 2, (("we", (), ()),)),)),), (("they", (), ()),)), "choices")

    def test_rests_and_comparings(self):
        for test, word in ((EVEN, "rests"), (SMALL, "comparings")):
            for form in (test, ("not", test), ("not", ("not", test))):
                one = (("if", form, (), ()),)
                self.assert_met((one * 2, one), word)
                self.assert_met(((("if", test, one, ()),), one), word)
                self.assert_met(((("if", test, (), one),), one), word)
                self.assert_met(((("repeat", 2, one),), one), word)
                self.assert_met(((("we", one, one),), one), word)
                self.assert_met(((("repeat", 1, (("repeat", 2, one),)),), one), word)
                self.assertEqual(program_error((("repeat", 3, one),)), (None, word))

    def test_rests_are_no_comparings(self):
        self.assertIsNone(program_error((("if", EVEN, (), ()), ("if", SMALL, (), ())) * 2))

    def test_several_at_once(self):
        passed = {
            "places": (STOP,) * 25,
            "weight": (("repeat", 8, (STOP,) * 4),),
            "choices": (("repeat", 5, (("we", (), ()),)),),
            "rests": (("repeat", 3, (("if", EVEN, (), ()),)),),
            "comparings": (("repeat", 3, (("if", SMALL, (), ()),)),),
        }
        words = list(passed)
        for chosen in range(1, 32):
            names = [word for at, word in enumerate(words) if chosen >> at & 1]
            whole = ()
            for name in names:
                whole += passed[name]
            with self.subTest(names):
                found = program_error(whole)
                self.assertEqual(found, slow_error(whole))
                if "weight" in names or len(names) == 1:
                    self.assertEqual(found, (None, names[0]))
                reordered = whole[::-1]
                self.assertEqual(program_error(reordered), found)

    def test_long_programs(self):
        for many in (25, 1001, 3500):
            self.assertEqual(program_error((STOP,) * many), (None, "places"))
            self.assertEqual(program_error((STOP,) * many + (3,)), (many, "statement"))
            self.assertEqual(program_error(nested((STOP,) * many, 3)), (None, "places"))
            self.assertEqual(program_error(nested((STOP,) * many, 4)), (4, "nest"))
            self.assertEqual(program_error(nested((STOP,) * many + (3,), 3)), (many + 3, "statement"))
        self.assertEqual(program_error((("they", (STOP,), (STOP,)),) * 1000), (None, "places"))


class TestAnyValue(unittest.TestCase):
    def test_deep_tuples(self):
        for levels in range(1, 21):
            self.assertEqual(program_error(deep_value(levels, lambda inner: (inner,))), WRONG)
            self.assertEqual(program_error(deep_value(levels, lambda inner: ("not", inner))), WRONG)
        for levels in range(5, 21):
            value = deep_value(levels, lambda inner: (("we", (), (inner,)),))
            self.assertEqual(program_error(value), slow_error(value))

    def test_value_stays_as_it_was(self):
        for value in odd_values() + [FULL, (("we", [STOP], ()),), (STOP, {"a": [1, 2]}), ([], [[]]), nested(([],), 4)]:
            before = copy.deepcopy(value)
            program_error(value)
            program_error((value,))
            self.assertEqual(value, before)
            self.assertEqual(repr(value), repr(before))

    def test_equal_calls_return_equal_results(self):
        for value in (FULL, (STOP, 3), 3):
            self.assertEqual(program_error(value), program_error(value))


class TestAgainstSlowReading(unittest.TestCase):
    def test_random_programs(self):
        source = random.Random(4)
        seen = {}
        for _ in range(6000):
            value = random_block(source, source.choice([1, 2, 3, 3, 4]), source.choice([3, 5, 9]))
            for _ in range(source.choice([0, 0, 1, 2])):
                value = with_part_replaced(source, value)
            found = program_error(value)
            self.assertEqual(found, slow_error(value), value)
            word = found and found[1]
            seen[word] = seen.get(word, 0) + 1
        self.assertEqual(len(seen), 9, seen)
        self.assertGreater(min(seen.values()), 10, seen)


if __name__ == "__main__":
    unittest.main()
