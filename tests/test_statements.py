import copy
import types
import unittest

from samples import EVEN, FULL, FULL_DEPTHS, FULL_HEADS, SMALL, STOP, nested, odd_values, unrolled
from weandthey.errors import NoPlace
from weandthey.programs import each_statement, program_error, statement_at, turned, weight

ARROW = (("repeat", 2, (("set", "a", "n"), ("they", (), (("pay", "a"),)))), ("stop",))
PROGRAMS = [
    (),
    (STOP,),
    ARROW,
    FULL,
    nested((STOP, ("pay", 1)), 3),
    (("if", SMALL, (STOP,), (("if", ("not", EVEN), (), (STOP,)),)), ("we", (), ())),
    (("repeat", 2, (("repeat", 3, (("we", (), ()), STOP)),)),),
    (STOP,) * 24,
]


class TestExample(unittest.TestCase):
    def test_example(self):
        program = (("repeat", 2, (("set", "a", "n"), ("they", (), (("pay", "a"),)))), ("stop",))
        self.assertEqual(
            [[row[:2] for row in each_statement(program)], weight(program), turned(program)],
            [[(0, 0), (1, 1), (2, 1), (3, 2), (4, 0)], 8, (('repeat', 2, (('set', 'a', 'n'), ('we', (), (('pay', ('times', -1, 'a')),)))), ('stop',))],
        )


class TestEachStatement(unittest.TestCase):
    def test_rows(self):
        rows = list(each_statement(FULL))
        self.assertEqual([row[0] for row in rows], list(range(12)))
        self.assertEqual([row[1] for row in rows], FULL_DEPTHS)
        self.assertEqual([row[2][0] for row in rows], FULL_HEADS)
        self.assertEqual([row[2] for row in rows if row[1] == 0], list(FULL))
        self.assertEqual({type(row) for row in rows}, {tuple})

    def test_whole_statements(self):
        inner = ("we", (STOP,), (("pay", 1),))
        program = (("if", SMALL, (inner,), (("pay", 2),)),)
        self.assertEqual(
            list(each_statement(program)),
            [(0, 0, program[0]), (1, 1, inner), (2, 2, STOP), (3, 2, ("pay", 1)), (4, 1, ("pay", 2))],
        )

    def test_nothing(self):
        self.assertEqual(list(each_statement(())), [])
        self.assertEqual(list(each_statement((("we", (), ()),))), [(0, 0, ("we", (), ()))])

    def test_generators_by_turns(self):
        self.assertIsInstance(each_statement(FULL), types.GeneratorType)
        one, other, same = each_statement(FULL), each_statement(ARROW), each_statement(FULL)
        found = ([], [], [])
        for _ in range(5):
            found[0].append(next(one))
            found[1].append(next(other))
            found[2].append(next(same))
        self.assertEqual(found[0], list(each_statement(FULL))[:5])
        self.assertEqual(found[1], list(each_statement(ARROW)))
        self.assertEqual(found[2], found[0])
        self.assertIsNone(next(other, None))
        self.assertEqual(found[0] + list(one), list(each_statement(FULL)))


class TestStatementAt(unittest.TestCase):
    def test_each_place(self):
        for program in PROGRAMS:
            for place, _, statement in each_statement(program):
                self.assertEqual(statement_at(program, place), statement)

    def test_known_places(self):
        self.assertEqual(statement_at(ARROW, 0), ARROW[0])
        self.assertEqual(statement_at(ARROW, 2), ("they", (), (("pay", "a"),)))
        self.assertEqual(statement_at(ARROW, 3), ("pay", "a"))
        self.assertEqual(statement_at(ARROW, 4), STOP)

    def assert_no_place(self, program, value):
        with self.subTest(str(value)[:60]):
            before = copy.deepcopy(value)
            with self.assertRaises(NoPlace) as caught:
                statement_at(program, value)
            self.assertIs(caught.exception.place, value)
            self.assertEqual(value, before)

    def test_no_place(self):
        for program in PROGRAMS:
            many = len(list(each_statement(program)))
            for value in (-1, -2, -many, many, many + 1, 10 ** 59, -(10 ** 59)):
                if not 0 <= value < many:
                    self.assert_no_place(program, value)

    def test_values_that_are_no_integers(self):
        for value in odd_values() + [(), (0,), (STOP,), "0", [0], {0: 0}]:
            if type(value) is not int:
                self.assert_no_place(FULL, value)
                self.assert_no_place((), value)


class TestWeight(unittest.TestCase):
    def test_weights(self):
        known = [
            ((), 0),
            ((STOP,), 1),
            ((("pay", 1), ("set", "a", 1)), 2),
            ((("if", SMALL, (STOP,), (STOP, STOP)),), 4),
            ((("we", (STOP,), (STOP, STOP)), ("they", (), (STOP,))), 6),
            ((("repeat", 8, ()),), 1),
            ((("repeat", 8, (STOP, STOP)), STOP), 18),
            ((("repeat", 2, (STOP, ("repeat", 3, (STOP, STOP)))),), 17),
            ((("repeat", 2, (("repeat", 3, (("repeat", 4, (STOP,)),)),)),), 1 + 2 * (1 + 3 * (1 + 4))),
        ]
        for program, told in known:
            with self.subTest(program):
                self.assertEqual(weight(program), told)
                self.assertIs(type(weight(program)), int)

    def test_unrolled(self):
        for program in PROGRAMS:
            self.assertEqual(weight(program), len(list(unrolled(program))))


class TestTurned(unittest.TestCase):
    def test_hands(self):
        self.assertEqual(turned((("we", (STOP,), (("they", (), ()),)),)), (("they", (STOP,), (("we", (), ()),)),))

    def test_payments(self):
        self.assertEqual(turned((("pay", 3), ("pay", ("plus", "n", 1)))),
                         (("pay", ("times", -1, 3)), ("pay", ("times", -1, ("plus", "n", 1)))))

    def test_all_else_stays(self):
        program = (("set", "a", ("minus", "n", 1)), ("if", ("not", EVEN), (STOP,), (("repeat", 3, ()),)), STOP)
        self.assertEqual(turned(program), program)
        self.assertEqual(turned(()), ())

    def test_in_every_block(self):
        def around(block):
            return (("if", SMALL, block, block), ("repeat", 2, block))
        self.assertEqual(turned(around((("we", (), ()), ("pay", "n")))), around((("they", (), ()), ("pay", ("times", -1, "n")))))

    def test_what_comes_is_no_program(self):
        deep = ("plus", ("plus", "n", 1), 1)
        program = (("pay", 1), ("pay", deep))
        self.assertIsNone(program_error(program))
        self.assertEqual(turned(program), (("pay", ("times", -1, 1)), ("pay", ("times", -1, deep))))
        self.assertEqual(program_error(turned(program)), (1, "statement"))
        self.assertIsNone(program_error(turned((("pay", ("plus", "n", 1)), ("set", "a", deep)))))

    def test_results_are_tuples(self):
        def assert_plain(value):
            self.assertIn(type(value), (tuple, str, int))
            if type(value) is tuple:
                for item in value:
                    assert_plain(item)
        for program in PROGRAMS:
            before = copy.deepcopy(program)
            assert_plain(turned(program))
            self.assertEqual(weight(turned(program)), weight(program))
            self.assertEqual(program, before)


if __name__ == "__main__":
    unittest.main()
