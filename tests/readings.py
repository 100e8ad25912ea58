"""Second, slow readings of what the document says of runs, worths, plans and lines."""

import itertools

from samples import blocks_in

WINDOW = 60


class Stopped(Exception):
    pass


class SlowRun:
    """One run, statement by statement, with every block executed where it stands."""

    def __init__(self, number, turns):
        self.names = {"n": number}
        self.total = 0
        self.left = list(turns)
        self.made = []

    def told(self, expression):
        if type(expression) is int:
            return expression
        if type(expression) is str:
            return self.names[expression] if expression in self.names else 0
        first = expression[1] if expression[0] == "times" else self.told(expression[1])
        second = self.told(expression[2])
        return {"plus": first + second, "minus": first - second, "times": first * second}[expression[0]]

    def test(self, test):
        if test[0] == "not":
            return not self.test(test[1])
        if test[0] == "less":
            return self.told(test[1]) < self.told(test[2])
        return (self.told(test[1]) - test[3]) % test[2] == 0

    def block(self, block):
        for statement in block:
            getattr(self, "do_" + statement[0])(*statement[1:])

    def do_set(self, name, expression):
        self.names[name] = self.told(expression)

    def do_pay(self, expression):
        self.total += self.told(expression)

    def do_if(self, test, yes, no):
        self.block(yes if self.test(test) else no)

    def choose(self, hand, blocks):
        turn = self.left.pop(0) if self.left else 0
        self.made.append((turn, hand))
        self.block(blocks[turn])

    def do_we(self, *blocks):
        self.choose("we", blocks)

    def do_they(self, *blocks):
        self.choose("they", blocks)

    def do_repeat(self, times, block):
        for _ in range(times):
            self.block(block)

    def do_stop(self):
        raise Stopped


def slow_run(program, number, turns):
    state = SlowRun(number, turns)
    try:
        state.block(program)
    except Stopped:
        pass
    return (state.total, tuple(turn for turn, _ in state.made), tuple(hand for _, hand in state.made))


def choices_in(block):
    """Return how many choices a run of a block can have at most."""
    total = 0
    for statement in block:
        inner = [choices_in(part) for part in blocks_in(statement)]
        if statement[0] == "repeat":
            total += statement[1] * inner[0]
        else:
            total += max(inner, default=0) + (statement[0] in ("we", "they"))
    return total


def slow_runs(program, number):
    """Return the list of all runs: those by all turns there are, each one once."""
    found = {}
    for turns in itertools.product((0, 1), repeat=choices_in(program)):
        row = slow_run(program, number, turns)
        found[row[1]] = row
    return [found[turns] for turns in sorted(found)]


def slow_worth(rows, ahead=()):
    """Return the worth behind these turns, by the runs that begin with them."""
    rows = [row for row in rows if row[1][:len(ahead)] == ahead]
    if rows[0][1] == ahead:
        return rows[0][0]
    behind = [slow_worth(rows, (*ahead, turn)) for turn in (0, 1)]
    return max(behind) if rows[0][2][len(ahead)] == "we" else min(behind)


def slow_plan(rows, hand, ahead=()):
    """Return what plan_of must return, by all runs."""
    rows = [row for row in rows if row[1][:len(ahead)] == ahead]
    if rows[0][1] == ahead:
        return ()
    if rows[0][2][len(ahead)] != hand:
        return tuple(slow_plan(rows, hand, (*ahead, turn)) for turn in (0, 1))
    turn = 0 if slow_worth(rows, (*ahead, 0)) == slow_worth(rows, ahead) else 1
    return (turn, slow_plan(rows, hand, (*ahead, turn)))


def slow_plan_holds(rows, hand, bound, value):
    """Return whether value is a plan that keeps the bound: each run is followed through it."""
    for total, turns, hands in rows:
        part = value
        for turn, chooser in zip(turns, hands):
            if type(part) is not tuple or len(part) != 2:
                return False
            if chooser == hand:
                if type(part[0]) is not int or part[0] not in (0, 1):
                    return False
                if part[0] != turn:
                    break
                part = part[1]
            else:
                part = part[turn]
        else:
            if type(part) is not tuple or part != ():
                return False
            if total < bound if hand == "we" else total > bound:
                return False
    return True


def input_order(numbers):
    """Return the numbers as a list in the order 0, 1, -1, 2, -2 and so on."""
    return sorted(numbers, key=lambda number: (abs(number), -number))


class SlowLines:
    """Rows read one by one; telling fails where an integer is not in just one of them."""

    def __init__(self, rows):
        self.bounds = [bound for row in rows for bound in row[2:4] if bound is not None]
        self.groups = {}
        for row in rows:
            self.groups.setdefault(row[1], {}).setdefault(row[0], []).append(row)

    def rows_about(self, number):
        rows = [row for by, rests in self.groups.items() for row in rests.get(number % by, [])]
        return [row for row in rows if (row[2] is None or number >= row[2]) and (row[3] is None or number <= row[3])]

    def __call__(self, number):
        (row,) = self.rows_about(number)
        return row[4][0] * number + row[4][1]

    def near(self, radius):
        """Return a list of integers: near each bound, near 0 and far out to both sides."""
        found = set(range(-radius, radius + 1))
        for bound in self.bounds:
            found.update(range(bound - radius, bound + radius + 1))
        far = 10 ** 60 + max([abs(bound) for bound in self.bounds], default=0)
        for start in (-far, far):
            found.update(range(start, start + WINDOW))
        return sorted(found)


def slow_parted(rows):
    """Return whether rows, whose by divides 60 and whose bounds are small, are parted."""
    lines = SlowLines(rows)
    reach = max([abs(bound) for bound in lines.bounds], default=0) + 2 * WINDOW
    return all(len(lines.rows_about(number)) == 1 for number in range(-reach, reach + 1))


def slow_top(told, reach):
    """Return the greatest told, with its first number, for what goes by lines of period 60 outside of -reach to reach."""
    for number in range(reach + 1, reach + 1 + WINDOW):
        if told(number + WINDOW) > told(number) or told(-number - WINDOW) > told(-number):
            return None
    best = max(told(number) for number in range(-reach - WINDOW, reach + WINDOW + 1))
    return (best, next(n for n in input_order(range(-reach - WINDOW, reach + WINDOW + 1)) if told(n) == best))


def slow_bottom(told, reach):
    found = slow_top(lambda number: -told(number), reach)
    return None if found is None else (-found[0], found[1])
