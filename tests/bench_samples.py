"""Values for the tests of benches."""

from bench_readings import Failure
from program_samples import any_program
from samples import SMALL, STOP, odd_values, random_statement

THEIRS = ("they", (("pay", "n"),), (("pay", 0),))
# Places: 0 pay, 1 they (2 pay, 3 they (4 stop, 5 pay)), 6 if (7 they), 8 repeat (9 they, 10 pay), 11 stop.
NESTED = (
    ("pay", 3),
    ("they", (("pay", "n"),), (("they", (STOP,), (("pay", 2),)),)),
    ("if", SMALL, (), (("they", (), ()),)),
    ("repeat", 1, (("they", (), ()), ("pay", 4))),
    ("stop",),
)
NESTED_THEIRS = (1, 3, 7, 9)
NO_STATEMENTS = [("pay",), ("pay", True), ("pay", 100), ("set", "pay", 1), ("stop", 1), ("we", (), []), ("repeat", 9, ()), [STOP], (STOP,), ("stop",) * 2]


def result_of(action):
    """Return what an action returns, or the name and the fields of the error that it raises."""
    try:
        return action()
    except Exception as error:
        return (type(error).__name__, *vars(error).values())


def slow_result_of(action):
    try:
        return action()
    except Failure as failure:
        return failure.told


def wrong_places(program_size):
    """Return values that are no places of a program of this size."""
    return [place for place in odd_values() if type(place) is not int] + [-1, program_size, 99, 10 ** 59, -(10 ** 59), (), (0,), (STOP,)]


def random_place(source, size):
    return source.choice([source.randrange(size + 1), source.randrange(size + 1), source.randrange(size + 1), source.choice([-1, True, False, None, "0", size + 3])])


def random_value(source):
    if source.randrange(8) == 0:
        return source.choice(NO_STATEMENTS)
    return random_statement(source, source.choice([0, 0, 1, 2]))


def random_item(source, size):
    """Return an edit as a tuple, often one that is refused."""
    name = source.choice(["add", "drop", "change", "give", "give", "give", "take", "take", "take"])
    if name == "add":
        return (name, random_value(source))
    if name == "change":
        return (name, random_place(source, size), random_value(source))
    return (name, random_place(source, size))


def random_items(source, size):
    items = [random_item(source, size) for _ in range(source.choice([0, 1, 1, 2, 3]))]
    return items if source.randrange(2) else tuple(items)


def start_of(source, theirs):
    """Return a program and a gift of it."""
    program = any_program(source)
    places = theirs(program)
    return (program, tuple(sorted(source.sample(places, source.randrange(len(places) + 1)))))
