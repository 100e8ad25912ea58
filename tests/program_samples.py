"""Programs for the tests of tables, verdicts, papers and gifts."""

from samples import STOP, random_expression, random_program, slow_error

FAR = 10 ** 60 - 1


def pays(*amounts):
    return tuple(("pay", amount) for amount in amounts)


def less(one, other):
    return ("less", one, other)


def rest(expression, by, left):
    return ("rest", expression, by, left)


def negated(test, times=1):
    for _ in range(times):
        test = ("not", test)
    return test


def when(test, yes=(), no=()):
    return ("if", test, yes, no)


def steps(name, factor, amount):
    """Return a block that sets a name to a multiple of itself and an amount."""
    return (("set", name, ("plus", ("times", factor, name), amount)),)


# A choice that lets n grow and one that lets it fall, for chains of them.
GROW = {hand: (hand, steps("n", 2, 3), steps("n", -1, 7)) for hand in ("we", "they")}
TWO_RESTS = (
    when(rest("n", 5, 2), steps("n", 1, 4), (("set", "a", ("times", -2, "n")),)),
    when(rest(("plus", "n", "a"), 6, 1), pays("a"), pays(("minus", "n", "a"))),
)
TWO_COMPARINGS = (
    when(less("a", ("times", 3, "n")), pays(("plus", "n", 7)), pays(("times", -3, "n"))),
    when(less(("times", 2, "n"), ("plus", "a", 9)), pays(5), pays(("minus", "a", 50))),
)

# Programs at the bounds of choices, rests and comparings, all at once.
FULL_PROGRAMS = [
    (GROW["we"], GROW["they"], GROW["we"], GROW["they"], *TWO_RESTS, *TWO_COMPARINGS),
    (*TWO_RESTS, *TWO_COMPARINGS, GROW["they"], ("we", pays("n"), pays("a")), ("they", pays(9), ()), ("we", (), pays(-9))),
    (("repeat", 2, (
        when(rest("n", 5, 3), steps("n", 3, -1), steps("n", -1, 2)),
        when(less("n", ("times", 2, "a")), (("set", "a", "n"),), pays(("minus", "n", "a"))),
        ("we", pays("n"), pays(("times", -1, "n"))),
        ("they", steps("n", 1, 1), steps("n", 1, -1)))),),
    (("repeat", 2, (
        ("they", steps("n", 2, 1), steps("n", -3, 4)),
        ("we", pays("n"), steps("a", -9, 99)),
        when(negated(rest(("plus", "n", "a"), 6, 5), 2), (when(negated(less("a", "n")), pays("a", "n"), (STOP,)),), pays(-7)))),),
    (when(rest("n", 4, 1), (when(rest("n", 6, 2), pays(1), (("they", pays("n"), ()),)),), (("we", pays(9), pays("n")),)),
     when(less("n", -20), (when(less(("times", 9, "n"), -91), (("they", pays(7), pays("n")),), (STOP,)),), (("we", steps("n", 9, -99), ()),)),
     ("pay", "n")),
    (("repeat", 4, (("they", steps("n", 1, 1), steps("n", -2, 0)), ("pay", "n"))), *TWO_RESTS, *TWO_COMPARINGS[:1]),
    (("repeat", 2, (when(rest("n", 5, 0), (("we", (("pay", "n"), STOP), steps("n", -1, 5)),), (("they", steps("n", 2, 1), ()),)),)), ("pay", ("plus", "n", 3))),
]

# Programs of every kind, each with a word about it.
PROGRAMS = {
    "nothing": (),
    "one form": pays("n"),
    "a constant": pays(-3),
    "their choice": (("they", pays("n"), pays(3)),),
    "our choice": (("we", pays("n"), pays(3)),),
    "less": (when(less("n", 5), pays(1), pays("n")),),
    "not less": (when(negated(less("n", 5)), pays(1), pays("n")),),
    "not not less": (when(negated(less("n", 5), 2), pays(1), pays("n")),),
    "rest": (when(rest("n", 3, 1), pays("n"), pays(-1)),),
    "not rest": (when(negated(rest("n", 3, 1)), pays("n"), pays(-1)),),
    "not not rest": (when(negated(rest("n", 6, 5), 2), pays("n"), pays(-1)),),
    "rest of a multiple": (when(rest(("times", 4, "n"), 6, 2), pays(1), pays(2)), when(rest(("times", -9, "n"), 5, 3), pays(10), ())),
    "tests that are the same everywhere": (
        when(rest(("times", 6, "n"), 6, 0), pays(1), (STOP,)), when(rest(("plus", ("times", 4, "n"), 1), 4, 0), (STOP,), pays(2)),
        when(less("n", "n"), (STOP,), pays(4)), when(less(("minus", "n", 1), "n"), pays(8), (STOP,))),
    "two rests in one another": (when(rest("n", 4, 3), (when(rest("n", 6, 5), pays("n"), pays(1)),), pays(2)),),
    "two comparings in one another": (when(less("n", 50), (when(less(-50, "n"), pays("n"), pays(-50)),), pays(50)),),
    "two rests in a repeat": (("repeat", 2, (when(rest("n", 2, 0), steps("n", 3, 1), steps("n", 1, -7) + pays("n")),)), ("pay", "n")),
    "two comparings in a repeat": (("repeat", 2, (when(less("n", 0), steps("n", -2, 3), steps("n", 1, -40)), ("pay", "n"))),),
    "names set from other names": (
        ("set", "a", "n"), ("set", "b2", ("plus", "a", "a")), ("set", "n", ("minus", "b2", 3)), ("set", "a", ("times", 2, "n")),
        ("pay", "a"), ("pay", "never"), when(less("a", "b2"), pays("b2"), pays("n"))),
    "n set anew": (("set", "n", ("times", -3, "n")), ("set", "n", ("plus", "n", 1)), when(rest("n", 3, 1), pays(1), pays(2)), when(less("n", 0), pays("n"), ())),
    "n forgotten": (("set", "n", 5), when(less("n", 6), pays(1), pays(2)), ("we", pays("n"), pays(4))),
    "factors at both ends": (
        ("set", "a", ("times", 9, ("times", 9, "n"))), ("set", "b", ("times", -9, ("times", 9, "a"))),
        ("they", pays(("plus", "b", ("times", -9, "a"))), pays(("times", 0, "n"))), ("pay", -99), ("pay", 99)),
    "choices in tests": (when(less("n", 7), (("we", pays("n"), pays(-5)),), (("they", pays("n"), pays(20)),)), when(rest("n", 2, 1), (("they", (), pays(-1)),), ())),
    "tests in choices": (("we", (when(less("n", 7), pays("n"), pays(3)),), (when(rest("n", 3, 0), pays(5), pays(-5)),)), ("they", (when(less("n", -7), pays(1), ()),), ())),
    "stops at every depth": (
        ("we", (("they", (when(less("n", 0), (STOP,), pays(5)),), (STOP,)), ("pay", 1)), (("pay", "n"),)),
        ("repeat", 2, (when(rest("n", 2, 0), (("pay", 2), STOP), ()), ("pay", "n"))), ("pay", 7), STOP, ("pay", 99)),
    "who chooses last has seen all": (
        ("they", steps("a", 0, 1), steps("a", 0, -1)), ("we", steps("b", 0, 1), steps("b", 0, -1)), when(less("a", "b"), pays("n"), pays(("times", -1, "n")))),
    "forms that cross between integers": (("we", pays(("times", 3, "n")), pays(("plus", "n", 7))), ("they", pays(("times", -5, "n")), pays(("minus", 8, "n")))),
    "many names": tuple(("set", "v" + str(at), ("plus", "v" + str(at - 1) if at else "n", at)) for at in range(11)) + pays("v10"),
    "places": pays(*["n", -1] * 12),
    "weight": (("repeat", 7, (("repeat", 1, (("pay", "n"),)), ("set", "n", ("plus", "n", 1)), ("pay", -2))),) + pays(3),
    "times": (("repeat", 8, (("pay", "n"), ("set", "n", ("times", -2, "n")))),),
    "steep": (("repeat", 8, (("set", "n", ("times", 9, ("times", 9, "n"))), ("pay", "n"))), ("we", pays("n"), pays(99))),
    "nest": (("we", (("they", (when(less("n", 3), pays("n"), pays(-2)),), pays(1)),), pays(("minus", 2, "n"))),),
    "four choices in a repeat": (("repeat", 4, (("they", pays("n"), pays(("minus", 3, "n"))),)),),
    "both hands in a repeat": (("repeat", 2, (("they", steps("n", 1, 1), steps("n", -1, 0)), ("we", pays("n"), pays(1)))),),
}
PROGRAMS.update(("full " + str(at), program) for at, program in enumerate(FULL_PROGRAMS))


def random_fork(source, word, one, other):
    """Return a choice or a test with two blocks."""
    if word == "choice":
        return (source.choice(["we", "they"]), one, other)
    if word == "rest":
        by = source.randint(2, 6)
        test = rest(random_expression(source, 2), by, source.randrange(by))
    else:
        test = less(random_expression(source, 2), random_expression(source, 2))
    return when(negated(test, source.choice([0, 0, 1, 2])), one, other)


def random_steps(source, most):
    """Return a block of few statements that set and pay."""
    block = []
    for _ in range(source.randrange(most + 1)):
        expression = random_expression(source, 2)
        block.append(("pay", expression) if source.randrange(2) else ("set", source.choice(["n", "a", "b2"]), expression))
    return tuple(block)


def full_program(source):
    """Return a program with four choices, two rests and two comparings, one behind or within another."""
    while True:
        words = ["choice"] * 4 + ["rest"] * 2 + ["less"] * 2
        source.shuffle(words)
        block = ()
        for word in words:
            inner = random_steps(source, 1)
            if source.randrange(4) == 0:
                block = (random_fork(source, word, block, inner) if source.randrange(2) else random_fork(source, word, inner, block),)
            else:
                block = (random_fork(source, word, inner, random_steps(source, 1)), *random_steps(source, 1), *block)
        if slow_error(block) is None:
            return block


def steep_program(source):
    """Return a program at the bounds of choices, rests and comparings in which every fork sets a name to a form of its own."""
    def form():
        return ("plus", ("times", source.choice([-9, -7, -5, -3, -2, 2, 3, 5, 7, 9]), source.choice("na")), source.randint(-99, 99))

    def settings():
        return tuple((("set", source.choice("na"), form()),) for _ in range(2))
    choices = [(source.choice(["we", "they"]), *settings()) for _ in range(4)]
    rests = [when(rest(source.choice(["n", "a", ("plus", "n", "a")]), by, source.randrange(by)), *settings()) for by in (5, 6)]
    comparings = [when(less(source.choice("na"), form()), pays(form()), pays(form())) for _ in range(2)]
    parts = source.choice([choices + rests, rests + choices, choices[:2] + rests + choices[2:], choices[:2] + rests[:1] + choices[2:] + rests[1:]])
    return (*parts, *comparings)


def bound_programs(source, many):
    """Return a list of programs at the bounds, those above and so many others of two sorts each."""
    return FULL_PROGRAMS + [full_program(source) for _ in range(many)] + [steep_program(source) for _ in range(many)]


def any_program(source):
    """Return a program of any sort."""
    pick = source.randrange(3)
    if pick == 0:
        return full_program(source)
    return random_program(source) if pick == 1 else source.choice(list(PROGRAMS.values()))


def all_programs(source, many):
    """Return a list of all the programs above and so many others."""
    return list(PROGRAMS.values()) + [full_program(source) if at % 2 else random_program(source) for at in range(many)]
