import copy
import random
import unittest

from readings import choices_in, slow_plan, slow_plan_holds, slow_runs, slow_worth
from samples import STOP, deep_value, has_word, odd_values, random_program, with_part_replaced
from weandthey.lines import Lines
from weandthey.programs import program_error, turned
from weandthey.runs import each_run
from weandthey.worths import plan_holds, plan_of, worth

NUMBERS = [0, 1, -1, 2, -2, 3, 5, -6, 7, 12, -13, 99, -100, 1000, 10 ** 59, -(10 ** 60) + 1]
HANDS = ("we", "they")
OTHER = {"we": "they", "they": "we"}


def pays(*amounts):
    return tuple(("pay", amount) for amount in amounts)


def choosing(block):
    return choices_in(block) > 0


def better(hand, bound):
    return bound + 1 if hand == "we" else bound - 1


def worse(hand, bound):
    return bound - 1 if hand == "we" else bound + 1


class TestExample(unittest.TestCase):
    def test_example(self):
        program = (("they", (("pay", "n"),), (("pay", 3), ("we", (), (("pay", 1),)))),)
        self.assertEqual(
            [[worth(program, n) for n in (2, 4, 9)], plan_of(program, 9, "we"), plan_of(program, 9, "they"), plan_holds(program, 2, "we", 2, ((), (0, ()))), plan_holds(program, 9, "we", 5, ((), (0, ())))],
            [[2, 4, 4], ((), (1, ())), (1, ((), ())), True, False],
        )


class TestWorth(unittest.TestCase):
    def test_no_choices(self):
        self.assertEqual(worth((), 5), 0)
        self.assertEqual(worth(pays("n", -7), 5), -2)
        self.assertEqual(worth((STOP, ("pay", 1)), 5), 0)

    def test_one_choice(self):
        one, other = pays("n"), pays(3)
        self.assertEqual([worth((("we", one, other),), n) for n in (-5, 3, 8)], [3, 3, 8])
        self.assertEqual([worth((("they", one, other),), n) for n in (-5, 3, 8)], [-5, 3, 3])

    def test_who_chooses_last_has_seen_all(self):
        ours = ("we", (("set", "a", 1),), (("set", "a", -1),))
        theirs = ("they", (("set", "b", 1),), (("set", "b", -1),))
        product = (("if", ("less", "b", 0), pays(("times", -1, "a")), pays("a")),)
        self.assertEqual(worth((ours, theirs) + product, 0), -1)
        self.assertEqual(worth((theirs, ours) + product, 0), 1)

    def test_ended_run(self):
        program = (("pay", -5), ("we", (STOP,), ()), ("they", (("pay", 9),), (("pay", 2),)))
        self.assertEqual(worth(program, 0), -3)
        program = (("pay", -5), ("they", (STOP,), ()), ("we", (("pay", 9),), (("pay", 2),)))
        self.assertEqual(worth(program, 0), -5)

    def test_repeated_choices(self):
        program = (("repeat", 2, (("we", pays(1), pays(2)), ("they", pays(-1), pays("n")))),)
        self.assertEqual([worth(program, n) for n in (-3, -1, 0, 5)], [-2, 2, 2, 2])

    def test_kind(self):
        for program in ((), pays(2), (("we", (), ()),)):
            self.assertIs(type(worth(program, 3)), int)

    def test_against_all_runs(self):
        source = random.Random(71)
        for at in range(500):
            program = random_program(source, choosing) if at % 3 else random_program(source)
            before = copy.deepcopy(program)
            for number in source.sample(NUMBERS, 4):
                told = worth(program, number)
                self.assertEqual(told, slow_worth(slow_runs(program, number)))
                self.assertEqual(told, slow_worth(list(each_run(program, number))))
                self.assertEqual(worth(program, number), told)
            self.assertEqual(program, before)

    def test_turned(self):
        source = random.Random(72)
        many = 0
        while many < 150:
            program = random_program(source, choosing)
            if program_error(turned(program)) is not None:
                continue
            many += 1
            for number in source.sample(NUMBERS, 3):
                self.assertEqual(worth(turned(program), number), -worth(program, number))
                for hand in HANDS:
                    self.assertEqual(plan_of(turned(program), number, OTHER[hand]), plan_of(program, number, hand))


class TestPlanOf(unittest.TestCase):
    def test_no_choices(self):
        for program in ((), pays(3), (STOP,)):
            for hand in HANDS:
                self.assertEqual(plan_of(program, 5, hand), ())

    def test_equal_worths(self):
        for hand in HANDS:
            program = ((hand, (), ()), (hand, pays(1), pays(1)))
            self.assertEqual(plan_of(program, 5, hand), (0, (0, ())))
            self.assertEqual(plan_of(program, 5, OTHER[hand]), (((), ()), ((), ())))

    def test_one_hand_only(self):
        program = (("we", pays(1), pays(2)), ("we", pays("n"), ()))
        self.assertEqual(plan_of(program, 5, "we"), (1, (0, ())))
        self.assertEqual(plan_of(program, -5, "we"), (1, (1, ())))
        self.assertEqual(plan_of(program, 5, "they"), (((), ()), ((), ())))
        program = (("they", pays(1), pays(2)), ("they", pays("n"), ()))
        self.assertEqual(plan_of(program, 5, "they"), (0, (1, ())))
        self.assertEqual(plan_of(program, 0, "they"), (0, (0, ())))
        self.assertEqual(plan_of(program, 5, "we"), (((), ()), ((), ())))

    def test_both_hands(self):
        program = (("they", (), (("pay", 5),)), ("we", pays("n"), pays(1)))
        self.assertEqual(plan_of(program, 3, "we"), ((0, ()), (0, ())))
        self.assertEqual(plan_of(program, -3, "we"), ((1, ()), (1, ())))
        self.assertEqual(plan_of(program, 3, "they"), (0, ((), ())))

    def test_choices_by_the_turns_ahead(self):
        program = (("they", (STOP,), (("set", "a", "n"),)), ("we", pays("a"), pays(("times", -1, "a"))))
        self.assertEqual(plan_of(program, 4, "we"), ((), (0, ())))
        self.assertEqual(plan_of(program, -4, "we"), ((), (1, ())))
        self.assertEqual(plan_of(program, -4, "they"), (0, ()))

    def test_also_best_where_the_other_hand_has_erred(self):
        program = (("they", (("pay", -9),), (("we", pays(1), pays(8)),)),)
        self.assertEqual(worth(program, 0), -9)
        self.assertEqual(plan_of(program, 0, "we"), ((), (1, ())))

    def test_against_all_runs(self):
        source = random.Random(73)
        for _ in range(300):
            program = random_program(source, choosing)
            for number in source.sample(NUMBERS, 3):
                rows = slow_runs(program, number)
                for hand in HANDS:
                    plan = plan_of(program, number, hand)
                    self.assertEqual(plan, slow_plan(rows, hand))
                    self.assertEqual(plan_of(program, number, hand), plan)
                    bound = slow_worth(rows)
                    self.assertIs(plan_holds(program, number, hand, bound, plan), True)
                    self.assertIs(plan_holds(program, number, hand, worse(hand, bound), plan), True)
                    self.assertIs(plan_holds(program, number, hand, better(hand, bound), plan), False)

    def test_items_are_plain(self):
        def assert_plain(value):
            self.assertIn(type(value), (tuple, int))
            for item in value if type(value) is tuple else ():
                assert_plain(item)
        source = random.Random(74)
        for _ in range(50):
            program = random_program(source, choosing)
            for hand in HANDS:
                assert_plain(plan_of(program, 3, hand))


def all_plans(rows, hand, ahead=()):
    """Return the list of all plans of a hand."""
    rows = [row for row in rows if row[1][:len(ahead)] == ahead]
    if rows[0][1] == ahead:
        return [()]
    behind = [all_plans(rows, hand, (*ahead, turn)) for turn in (0, 1)]
    if rows[0][2][len(ahead)] == hand:
        return [(turn, plan) for turn in (0, 1) for plan in behind[turn]]
    return [(one, other) for one in behind[0] for other in behind[1]]


class TestPlanHolds(unittest.TestCase):
    program = (("they", (("pay", "n"),), (("pay", 3), ("we", (), (("pay", 1),)))),)

    def assert_holds(self, wanted, program, number, hand, bound, value):
        before = copy.deepcopy(value)
        with self.subTest(str(value)[:60]):
            self.assertIs(plan_holds(program, number, hand, bound, value), wanted)
            self.assertEqual(value, before)
            self.assertEqual(str(value), str(before))

    def test_no_choices(self):
        for hand in HANDS:
            self.assert_holds(True, pays(4), 0, hand, 4, ())
            self.assert_holds(False, pays(4), 0, hand, better(hand, 4), ())
            for value in ((0, ()), ((),), ((), ()), [], None, 0, False, "", {}):
                self.assert_holds(False, pays(4), 0, hand, 4, value)

    def test_bounds_of_many_digits(self):
        self.assert_holds(True, self.program, 9, "we", -(10 ** 199), ((), (0, ())))
        self.assert_holds(False, self.program, 9, "we", 10 ** 199, ((), (1, ())))
        self.assert_holds(True, self.program, 9, "they", 10 ** 200 - 1, (1, ((), ())))
        self.assert_holds(False, self.program, 9, "they", -(10 ** 200) + 1, (1, ((), ())))
        great = 10 ** 60 - 1
        self.assert_holds(True, pays("n", "n"), great, "we", 2 * great, ())
        self.assert_holds(False, pays("n", "n"), great, "we", 2 * great + 1, ())

    def test_another_turn(self):
        self.assert_holds(True, self.program, 9, "we", 4, ((), (1, ())))
        self.assert_holds(False, self.program, 9, "we", 4, ((), (0, ())))
        self.assert_holds(True, self.program, 9, "they", 4, (1, ((), ())))
        self.assert_holds(False, self.program, 9, "they", 4, (0, ()))
        self.assert_holds(True, self.program, 9, "they", 9, (0, ()))

    def test_a_plan_left_out_or_one_too_many(self):
        for value in ((), ((),), (((), ()),), ((), ()), ((), (1,)), ((), ((),)), ((1, ()),), ((), (1, ()), ()), ((), (1, (), ())),
                      ((), (1, ((),))), (((),), (1, ())), ((), (1, (1, ()))), ((), (1, ((), ()))), (0, ((), (1, ()))), (1, ())):
            self.assert_holds(False, self.program, 9, "we", -99, value)
        for value in ((), (1,), (1, ()), (1, (), ()), (1, ((), ()), ()), (1, ((),)), (1, ((), (), ())), (0, ((), ())), (((), ()),), ((), ((), ()))):
            self.assert_holds(False, self.program, 9, "they", 99, value)

    def test_bools_and_others_for_turns(self):
        for turn in (True, False, None, "1", 2, -1, 10 ** 59, (1,), [1], (), {}, "we"):
            self.assert_holds(False, self.program, 9, "we", -99, ((), (turn, ())))
            self.assert_holds(False, self.program, 9, "they", 99, (turn, ((), ())))
            self.assert_holds(False, self.program, 9, "they", 99, (turn, ()))

    def test_lists_for_tuples(self):
        for value in ([(), (1, ())], ([], (1, ())), ((), [1, ()]), ((), (1, []))):
            self.assert_holds(False, self.program, 9, "we", -99, value)
        for value in ([1, ((), ())], (1, [(), ()]), (1, ([], ())), (1, ((), []))):
            self.assert_holds(False, self.program, 9, "they", 99, value)

    def test_values_of_every_kind(self):
        values = odd_values() + [(value,) for value in odd_values()] + [(value, value) for value in odd_values()]
        values += [((), value) for value in odd_values()] + [(1, value) for value in odd_values()]
        values += [deep_value(20, lambda inner: (inner,)), deep_value(20, lambda inner: (1, inner)), ((),) * 4000]
        values += [deep_value(10, lambda inner: (inner, inner)), self.program, plan_of(self.program, 9, "we")[::-1]]
        for value in values:
            for hand in HANDS:
                self.assert_holds(False, self.program, 9, hand, 0, value)

    def test_results_of_the_package(self):
        lines = Lines(((0, 1, None, None, (0, 0)),))
        for value in (lines, (lines, lines), ((), lines), (1, lines), lines.rows, next(each_run(self.program, 1))):
            for hand in HANDS:
                self.assertIs(plan_holds(self.program, 9, hand, 0, value), False)

    def test_every_plan(self):
        source = random.Random(75)
        for _ in range(60):
            program = random_program(source, lambda block: choosing(block) and not has_word(block, "stop"))
            number = source.choice(NUMBERS)
            rows = slow_runs(program, number)
            bound = slow_worth(rows)
            for hand in HANDS:
                plans = all_plans(rows, hand)
                for plan in source.sample(plans, min(len(plans), 40)):
                    for limit in (bound, bound + 1, bound - 1, source.choice(rows)[0]):
                        wanted = slow_plan_holds(rows, hand, limit, plan)
                        self.assertIs(plan_holds(program, number, hand, limit, plan), wanted)
                # No plan of either hand is sure of more than the worth.
                held = [plan_holds(program, number, hand, better(hand, bound), plan) for plan in plans]
                self.assertNotIn(True, held)

    def test_parts_replaced(self):
        source = random.Random(76)
        seen = set()
        for _ in range(1500):
            program = random_program(source, choosing)
            number, hand = source.choice(NUMBERS), source.choice(HANDS)
            rows = slow_runs(program, number)
            value = with_part_replaced(source, plan_of(program, number, hand))
            limit = source.choice([slow_worth(rows), -(10 ** 70), 10 ** 70])
            wanted = slow_plan_holds(rows, hand, limit, value)
            seen.add(wanted)
            self.assert_holds(wanted, program, number, hand, limit, value)
        self.assertEqual(seen, {True, False})


if __name__ == "__main__":
    unittest.main()
