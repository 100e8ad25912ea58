import copy
import random
import time
import unittest

from line_samples import cut_otherwise, has_integer
from program_samples import FAR, all_programs, any_program, bound_programs, less, pays, rest, steep_program, when
from readings import SlowLines
from samples import PARTS, STOP, deep_value, odd_values, with_part_replaced
from weandthey.bounds import MAX_PERIOD
from weandthey.papers import paper_holds, paper_of
from weandthey.programs import program_error
from weandthey.tables import worth_of
from weandthey.verdicts import lost
from weandthey.worths import plan_holds, plan_of, worth

# We must choose by the sign of n, or by its rest.
BY_SIGN = (("we", pays("n"), pays(("times", -1, "n"))),)
BY_REST = (when(rest("n", 2, 0), (("we", (), pays(-1)),), (("we", pays(-1), ()),)),)
SIGNS = ((0, 1, None, 0, (1, ())), (0, 1, 1, None, (0, ())))
RESTS = ((0, 2, None, None, (0, ())), (1, 2, None, None, (1, ())))
BOTH_HANDS = (("they", (("set", "a", "n"),), (("set", "a", ("minus", 0, "n")),)), ("we", pays("a"), pays(("times", -1, "a"))))
BOTH_PLANS = ((0, 1, None, -1, ((1, ()), (0, ()))), (0, 1, 0, None, ((0, ()), (1, ()))))
WON = {"sign": (BY_SIGN, SIGNS), "rest": (BY_REST, RESTS), "both hands": (BOTH_HANDS, BOTH_PLANS), "no choice": (pays(3), ((0, 1, None, None, ()),))}


def won_programs(source, many):
    """Return a list of won programs: random ones to which enough is paid at the end."""
    found = []
    while len(found) < many:
        program = any_program(source)
        for ending in ((), pays(99, 99), (("we", (), pays(("times", 9, "n"), 99)),), (when(less("n", 0), pays(("times", -9, "n"), 99), pays(("times", 9, "n"), 99)),)):
            if program_error(program + ending) is None and lost(program + ending) is None:
                found.append(program + ending)
                break
    return found


def slow_won(program, pieces, reach=250):
    """Return whether pieces whose bounds are within reach show that a program is won."""
    for left, by, low, high, _ in pieces:
        if low is not None and high is not None and (low > high or not has_integer(left, by, low, high)):
            return False
    slow = SlowLines(pieces)
    for number in [*range(-reach, reach + 1), *range(FAR, FAR + 240), *range(-FAR - 240, -FAR)]:
        about = slow.rows_about(number)
        if len(about) != 1 or not plan_holds(program, number, "we", 0, about[0][4]):
            return False
    return True


def random_otherwise(source, pieces):
    """Return pieces with one thing otherwise; they may hold all the same."""
    pieces = list(pieces)
    at = source.randrange(len(pieces))
    left, by, low, high, plan = pieces[at]
    amount = source.choice([-2, -1, 1, 2])
    changed = [
        (left, by, None if low is None else low + amount, high, plan),
        (left, by, low, None if high is None else high + amount, plan),
        (left, by, 0 if low is None else None, high, plan),
        (left, by, low, 0 if high is None else None, plan),
        ((left + amount) % by, by, low, high, plan),
        (left, by + 1, low, high, plan),
        (left + by, by * 2, low, high, plan),
        (left, by, 7, 6, plan),
        (left, by, low, high, with_part_replaced(source, plan)),
        (left, by, low, high, source.choice(pieces)[4]),
        (left, by, low, high, other_turn(source, plan)),
        (left, by, low, high, other_turn(source, plan)),
    ]
    pick = source.randrange(len(changed) + 2)
    if pick < len(changed):
        pieces[at] = changed[pick]
    else:
        pieces[at:at + 1] = [pieces[at]] * (2 * (pick - len(changed)))
    return tuple(pieces)


def other_turn(source, plan):
    """Return the plan with one turn exchanged, wherever it stands."""
    if not plan:
        return plan
    if type(plan[0]) is int and source.randrange(2):
        return (1 - plan[0], plan[1])
    at = 1 if type(plan[0]) is int else source.randrange(2)
    return (*plan[:at], other_turn(source, plan[at]), *plan[at + 1:])


class TestExample(unittest.TestCase):
    def test_example(self):
        one, other = (("they", (("pay", "n"),), (("pay", 3),)),), (("we", (("pay", "n"),), (("pay", ("times", -1, "n")),)),)
        self.assertEqual(
            [paper_of(one), paper_holds(other, ("won", ((0, 1, None, 0, (1, ())), (0, 1, 1, None, (0, ()))))), paper_holds(other, ("won", ((0, 1, None, None, (0, ())),))), paper_of(other)[0]],
            [('lost', -1, (0, ())), True, False, 'won'],
        )


class TestPaperOf(unittest.TestCase):
    def assert_paper(self, program):
        before = copy.deepcopy(program)
        paper = paper_of(program)
        number = lost(program)
        if number is None:
            self.assertEqual((type(paper), len(paper), paper[0], type(paper[1])), (tuple, 2, "won", tuple))
            slow = SlowLines(paper[1])
            for at in [*range(-40, 41), *slow.near(2)]:
                (piece,) = slow.rows_about(at)
                self.assertIs(plan_holds(program, at, "we", 0, piece[4]), True)
        else:
            self.assertEqual(paper, ("lost", number, plan_of(program, number, "they")))
        self.assertIs(paper_holds(program, paper), True)
        self.assertEqual(paper_of(program), paper)
        self.assertEqual(program, before)
        return paper

    def test_every_kind(self):
        source = random.Random(160)
        seen = {"won": 0, "lost": 0}
        for program in all_programs(source, 150) + [steep_program(source) for _ in range(40)]:
            seen[self.assert_paper(program)[0]] += 1
        self.assertGreater(min(seen.values()), 20)

    def test_won_programs(self):
        source = random.Random(161)
        for program in won_programs(source, 100):
            self.assertEqual(self.assert_paper(program)[0], "won")

    def test_one_plan_does_not_do(self):
        for program, _ in list(WON.values())[:3]:
            pieces = self.assert_paper(program)[1]
            for plan in {piece[4] for piece in pieces}:
                self.assertIs(paper_holds(program, ("won", ((0, 1, None, None, plan),))), False)
        # What is a plan at all depends on the number here.
        program = (when(less("n", 0), (("we", pays(-1), ()),), (when(rest("n", 3, 1), (("they", (), pays(1)),), (STOP,)),)),)
        paper = self.assert_paper(program)
        self.assertEqual({piece[4] for piece in paper[1]}, {(1, ()), ((), ()), ()})

    def test_items_are_plain(self):
        def assert_plain(value):
            self.assertIn(type(value), (tuple, int, str, type(None)))
            for item in value if type(value) is tuple else ():
                assert_plain(item)
        for program in all_programs(random.Random(162), 20):
            assert_plain(paper_of(program))


class TestPaperHolds(unittest.TestCase):
    def assert_holds(self, wanted, program, value):
        before = copy.deepcopy(value)
        with self.subTest(str(value)[:90]):
            self.assertIs(paper_holds(program, value), wanted)
            self.assertEqual(value, before)
            self.assertEqual(str(value), str(before))

    def test_known_papers(self):
        for program, pieces in WON.values():
            self.assert_holds(True, program, ("won", pieces))
            self.assert_holds(True, program, ("won", pieces[::-1]))
            self.assert_holds(False, program, ("won", pieces[1:]))
            self.assert_holds(False, program, ("won", pieces + pieces[:1]))
            self.assert_holds(False, program, ("won", pieces, ()))
            self.assert_holds(False, program, ("won", *pieces))
            self.assert_holds(False, program, ("lost", 0, ()) if program != pays(3) else ("lost", 0, (0, ())))

    def test_bounds_of_pieces(self):
        for low, high in ((-1, 0), (-1, 1), (1, 2), (1, 1), (2, 2), (-2, -2)):
            value = ("won", ((0, 1, None, low, (1, ())), (0, 1, high, None, (0, ()))))
            self.assert_holds((low, high) in ((-1, 0),), BY_SIGN, value)
        self.assert_holds(True, BY_SIGN, ("won", SIGNS))
        for bound in (True, False, "0", (0,), [0], {}, "", ()):
            self.assert_holds(False, BY_SIGN, ("won", ((0, 1, None, bound, (1, ())), (0, 1, 1, None, (0, ())))))
            self.assert_holds(False, BY_SIGN, ("won", ((0, 1, None, 0, (1, ())), (0, 1, bound, None, (0, ())))))

    def test_parted_otherwise(self):
        source = random.Random(163)
        for program in won_programs(source, 60):
            pieces = paper_of(program)[1]
            again = cut_otherwise(source, pieces)
            self.assert_holds(True, program, ("won", again))
            self.assert_holds(True, program, ("won", tuple(source.sample(again, len(again)))))
            at = source.randrange(len(again))
            self.assert_holds(False, program, ("won", again[:at] + again[at + 1:]))
            self.assert_holds(False, program, ("won", again[:at] + again[at:at + 1] + again[at:]))
            self.assert_holds(False, program, ("won", again + ((0, 1, 9, 9, again[at][4]),)))
            self.assert_holds(False, program, ("won", (*again[:at], list(again[at]), *again[at + 1:])))
            self.assert_holds(False, program, ("won", list(again)))
            self.assert_holds(False, program, ["won", again])

    def test_long_periods(self):
        ladder = [(2 ** at - 1, 2 ** (at + 1), None, 0, (1, ())) for at in range(19)] + [(2 ** 19 - 1, 2 ** 19, None, 0, (1, ()))]
        thirds = [(left * 3 ** at, 3 ** (at + 1), 1, None, (0, ())) for at in range(12) for left in (1, 2)] + [(0, 3 ** 12, 1, None, (0, ()))]
        value = (*ladder, *thirds)
        self.assert_holds(True, BY_SIGN, ("won", value))
        for at, (left, by, low, high, plan) in enumerate(value):
            for part in ((left, by, low, high, (1 - plan[0], ())), (left, by, low, high, ()), ((left + 1) % by, by, low, high, plan), (left, by * 2, low, high, plan),
                         (left, by, None, None, plan), (left, by, low, high, plan, plan), (left, by, low, high)):
                self.assert_holds(False, BY_SIGN, ("won", (*value[:at], part, *value[at + 1:])))
            self.assert_holds(False, BY_SIGN, ("won", value[:at] + value[at + 1:]))
        millions = tuple((at, MAX_PERIOD, at, at, (0, ())) for at in range(1, 301))
        self.assert_holds(True, BY_SIGN, ("won", (SIGNS[0], *millions, (0, 1, 301, None, (0, ())))))
        self.assert_holds(False, BY_SIGN, ("won", (SIGNS[0], *millions[1:], (0, 1, 301, None, (0, ())))))
        self.assert_holds(False, BY_SIGN, ("won", (SIGNS[0], (1, MAX_PERIOD + 1, 1, 1, (0, ())), (0, 1, 2, None, (0, ())))))

    def test_plans_that_fail_on_one_integer(self):
        for at in (0, 1, -1, 7, -8, 60, 97, -99):
            block = (("set", "a", at), when(less("n", "a"), (("we", (), ()),), (when(less("a", "n"), (("we", (), ()),), (("we", (), pays(-1)),)),)))
            self.assertIsNone(program_error(block))
            self.assert_holds(True, block, ("won", ((0, 1, None, None, (0, ())),)))
            self.assert_holds(False, block, ("won", ((0, 1, None, None, (1, ())),)))
            for by in (2, 3, 10 ** 6):
                others = tuple((left, by, None, None, (1, ())) for left in range(by) if left != at % by) if by < 9 else ()
                if others:
                    self.assert_holds(True, block, ("won", (*others, (at % by, by, None, None, (0, ())))))
                    self.assert_holds(False, block, ("won", (*others, (at % by, by, None, None, (1, ())))))
            sides = ((0, 1, None, at - 1, (1, ())), (0, 1, at + 1, None, (1, ())))
            self.assert_holds(True, block, ("won", (*sides, (0, 1, at, at, (0, ())))))
            self.assert_holds(False, block, ("won", (*sides, (0, 1, at, at, (1, ())))))
            self.assert_holds(False, block, ("won", ((0, 1, None, at - 1, (1, ())), (0, 1, at, at + 5, (1, ())), (0, 1, at + 6, None, (0, ())))))
            self.assert_holds(False, block, ("won", ((0, 1, None, at, (1, ())), (0, 1, at + 1, None, (0, ())))))
            self.assert_holds(True, block, ("won", ((0, 1, None, at - 1, (1, ())), (0, 1, at, None, (0, ())))))

    def test_plans_that_fail_far_out(self):
        grown = (("set", "a", 1), ("repeat", 8, (("set", "a", ("times", 9, ("times", 9, "a"))),)))
        far = 81 ** 8
        program = grown + (("we", pays(("minus", "a", "n")), ()),)
        self.assert_holds(True, program, ("won", ((0, 1, None, far, (0, ())), (0, 1, far + 1, None, (1, ())))))
        self.assert_holds(False, program, ("won", ((0, 1, None, far + 1, (0, ())), (0, 1, far + 2, None, (1, ())))))
        self.assert_holds(False, program, ("won", ((0, 1, None, None, (0, ())),)))
        odd = (1, 2, None, None, (1, ()))
        self.assert_holds(True, program, ("won", (odd, (0, 2, None, far, (0, ())), (0, 2, far, None, (1, ())))))
        self.assert_holds(False, program, ("won", (odd, (0, 2, None, far + 1, (0, ())), (0, 2, far + 2, None, (1, ())))))
        program = grown + (("we", pays(("plus", "a", "n")), ()),)
        self.assert_holds(True, program, ("won", ((0, 1, -far, None, (0, ())), (0, 1, None, -far - 1, (1, ())))))
        self.assert_holds(False, program, ("won", ((0, 1, -far - 1, None, (0, ())), (0, 1, None, -far - 2, (1, ())))))

    def test_one_thing_otherwise(self):
        source = random.Random(164)
        seen = {True: 0, False: 0}
        programs = [program for program in won_programs(source, 120)
                    if max([abs(n) for n in SlowLines(paper_of(program)[1]).bounds], default=0) < 120] + [program for program, _ in WON.values()]
        for _ in range(600):
            program = source.choice(programs)
            pieces = random_otherwise(source, cut_otherwise(source, paper_of(program)[1], 3))
            wanted = slow_won(program, pieces)
            seen[wanted] += 1
            self.assert_holds(wanted, program, ("won", pieces))
        self.assertGreater(min(seen.values()), 60)

    def test_lost_papers(self):
        source = random.Random(165)
        for program in all_programs(source, 60):
            for number in (0, source.randint(-99, 99), source.randint(-FAR, FAR)):
                plan, told = plan_of(program, number, "they"), worth(program, number)
                self.assert_holds(told < 0, program, ("lost", number, plan))
                value = with_part_replaced(source, plan)
                self.assert_holds(plan_holds(program, number, "they", -1, value), program, ("lost", number, value))
                ours = plan_of(program, number, "we")
                self.assert_holds(plan_holds(program, number, "they", -1, ours), program, ("lost", number, ours))
            if told < 0:
                self.assert_holds(False, program, ("won", number, plan))
                self.assert_holds(False, program, ("lost", number))
                self.assert_holds(False, program, ("lost", number, plan, plan))
                self.assert_holds(False, program, ("lost", (number, plan)))
                self.assert_holds(False, program, ["lost", number, plan])
                self.assert_holds(False, program, ("Lost", number, plan))
                self.assert_holds(False, program, (number, plan))

    def test_values_for_the_number(self):
        program = (("they", pays(-1), ()),)
        self.assert_holds(True, program, ("lost", 0, (0, ())))
        self.assert_holds(True, program, ("lost", 1, (0, ())))
        self.assert_holds(False, program, ("lost", 1, (1, ())))
        for value in odd_values() + [(), (0,), program, [0]]:
            self.assert_holds(type(value) is int, program, ("lost", value, (0, ())))
        for turn in (False, True, None, "0", 2, -1):
            self.assert_holds(False, program, ("lost", 0, (turn, ())))

    def test_papers_of_the_other_sort(self):
        source = random.Random(166)
        seen = set()
        for program in all_programs(source, 60):
            paper = paper_of(program)
            seen.add(paper[0])
            if paper[0] == "won":
                for number in (0, 5, -7, FAR):
                    self.assert_holds(False, program, ("lost", number, plan_of(program, number, "they")))
            else:
                for plan in [plan_of(program, number, "we") for number in (0, 1, -5, 60)]:
                    self.assert_holds(False, program, ("won", ((0, 1, None, None, plan),)))
        self.assertEqual(seen, {"won", "lost"})

    def test_papers_of_other_programs(self):
        source = random.Random(167)
        programs = all_programs(source, 30)
        for program in programs:
            other = source.choice(programs)
            paper = paper_of(other)
            if paper[0] == "lost":
                wanted = plan_holds(program, paper[1], "they", -1, paper[2])
                self.assert_holds(wanted, program, paper)
            elif lost(program) is not None:
                self.assert_holds(False, program, paper)

    def test_values_of_every_kind(self):
        for program, pieces in WON.values():
            values = odd_values() + [(value,) for value in odd_values()] + [("won", value) for value in odd_values()]
            values += [("won", (value,)) for value in odd_values()] + [("won", (*pieces, value)) for value in odd_values()]
            values += [(value, pieces) for value in odd_values()] + [(value, 0, ()) for value in odd_values()] + [("lost", 0, value) for value in odd_values()]
            for at in range(5):
                for value in odd_values():
                    if str(value) != str(pieces[0][at]) and not (at in (2, 3) and value is None):
                        values.append(("won", ((*pieces[0][:at], value, *pieces[0][at + 1:]), *pieces[1:])))
            values += [(), ("won",), ("won", ()), ("won", ((),)), ("lost",), ("won", pieces, pieces), ("won", (pieces,)), pieces, program, list(pieces)]
            values += [deep_value(20, lambda inner: (inner,)), ("won", deep_value(18, lambda inner: (0, 1, None, None, inner)))]
            values += [("won", ((0, 1, None, None, deep_value(17, lambda inner: (0, inner))),)), ("won", ((),) * 3990)]
            values += [("won", ((0, 1, None, None, deep_value(9, lambda inner: (inner, inner))),))]
            for value in values:
                self.assert_holds(False, program, value)
            lines = worth_of(program)
            for value in (lines, ("won", lines), ("won", lines.rows), (lines, pieces), ("won", (lines,)), ("lost", lines, ()), ("lost", 0, lines), ("won", (*pieces[:-1], (*pieces[-1][:4], lines)))):
                self.assertIs(paper_holds(program, value), False)

    def test_turns(self):
        for turn in (-1, 2, -2, 99, True, False, None, "1", "we", (1,), [1], {}, ()):
            self.assert_holds(False, BY_SIGN, ("won", ((0, 1, None, 0, (turn, ())), SIGNS[1])))
            self.assert_holds(False, BY_SIGN, ("won", (SIGNS[0], (0, 1, 1, None, (turn, ())))))
        self.assert_holds(True, BY_SIGN, ("won", (SIGNS[0], (0, 1, 1, None, (0, ())))))

    def test_parts_of_plans(self):
        program, (first, second) = WON["both hands"]
        for part in PARTS:
            for plan in (part, (part, (1, ())), ((0, ()), part), ((part, ()), (1, ())), ((0, part), (1, ())), ((0, ()), (part, ())), ((0, ()), (1, part))):
                wanted = plan == second[4] and type(part) is not bool
                self.assert_holds(wanted, program, ("won", (first, (*second[:4], plan))))

    def test_parts_replaced(self):
        source = random.Random(168)
        for _ in range(500):
            program = any_program(source)
            value = with_part_replaced(source, paper_of(program))
            before = copy.deepcopy(value)
            held = paper_holds(program, value)
            self.assertIn(held, (True, False))
            if held:
                self.assertEqual(value[0], "won" if lost(program) is None else "lost")
            self.assertEqual(value, before)


class TestTime(unittest.TestCase):
    def test_programs_at_the_bounds(self):
        source = random.Random(169)
        programs = bound_programs(source, 50) + won_programs(source, 20)
        start = time.perf_counter()
        papers = [paper_of(program) for program in programs]
        made = time.perf_counter()
        held = [paper_holds(program, paper) for program, paper in zip(programs, papers)]
        checked = time.perf_counter()
        self.assertEqual(set(held), {True})
        self.assertLess((made - start) / len(programs), 0.05)
        self.assertLess((checked - made) / len(programs), 0.05)


if __name__ == "__main__":
    unittest.main()
