"""Values for the tests, and a second, slow reading of the document to compare with."""

import re

WORDS = "set pay stop if else we they or repeat pass rest of not program".split()
STOP = ("stop",)
SMALL = ("less", "n", 1)
EVEN = ("rest", "n", 2, 0)

# A program with every kind of statement, expression and test, and its depths by place.
FULL = (
    ("set", "a", ("plus", ("times", -9, "n"), ("minus", "n", 99))),
    ("if", ("not", ("less", "a", -99)), (("pay", "a"), ("we", (STOP,), ())), (("pay", 0),)),
    ("repeat", 2, (("they", (), (("pay", ("times", 9, "a")), ("set", "n", 0))),)),
    ("if", ("not", ("not", ("rest", "n", 6, 5))), (), ()),
    ("stop",),
)
FULL_DEPTHS = [0, 0, 1, 1, 2, 1, 0, 1, 2, 2, 0, 0]
FULL_HEADS = ["set", "if", "pay", "we", "stop", "pay", "repeat", "they", "pay", "set", "if", "stop"]


def nested(block, levels, word="they"):
    """Return a block with so many statements around the given one."""
    for _ in range(levels):
        block = ((word, block, ()),)
    return block


def deep_value(levels, build):
    value = 1
    for _ in range(levels):
        value = build(value)
    return value


def odd_values():
    """Return values of every kind that "any value" names but tuples, none of them a statement."""
    values = [True, False, None, "", "n", "stop", "program\nstop", "x" * 3000, "\n", 0, 1, -1, 100, 10 ** 59]
    values += [-(10 ** 60) + 1, [], [STOP], {}, {"stop": 1}, {1: (STOP,)}]
    values += [deep_value(20, lambda inner: [inner]), deep_value(20, lambda inner: {"a": inner})]
    values += [[0] * 4000, list(range(4000)), {at: at for at in range(2000)}]
    return values


def is_integer(value):
    return type(value) is int


def depth_of(value):
    """Return how many expressions lie in one another, or None for what is no expression."""
    if is_integer(value):
        return 1 if abs(value) < 100 else None
    if type(value) is str:
        return 1 if re.fullmatch("[a-z][a-z0-9]{0,7}", value) and value not in WORDS else None
    if type(value) is not tuple or len(value) != 3 or type(value[0]) is not str:
        return None
    if value[0] == "times":
        parts = [depth_of(value[2])] if is_integer(value[1]) and -10 < value[1] < 10 else [None]
    elif value[0] in ("plus", "minus"):
        parts = [depth_of(value[1]), depth_of(value[2])]
    else:
        parts = [None]
    return None if None in parts else 1 + max(parts)


def expression_fits(value):
    return depth_of(value) in (1, 2, 3)


def is_test(value):
    nots = 0
    while type(value) is tuple and len(value) == 2 and value[0] == "not":
        nots, value = nots + 1, value[1]
    if nots > 2 or type(value) is not tuple or not value:
        return False
    if value[0] == "less":
        return len(value) == 3 and expression_fits(value[1]) and expression_fits(value[2])
    if value[0] != "rest" or len(value) != 4 or not expression_fits(value[1]):
        return False
    return is_integer(value[2]) and 1 < value[2] < 7 and is_integer(value[3]) and 0 <= value[3] < value[2]


def blocks_in(value):
    """Return the list of blocks of a statement, or None for what is no statement."""
    if type(value) is not tuple or not value or type(value[0]) is not str:
        return None
    word, rest = value[0], value[1:]
    if (word, len(rest)) == ("stop", 0):
        return []
    if (word, len(rest)) == ("pay", 1):
        return [] if expression_fits(rest[0]) else None
    if (word, len(rest)) == ("set", 2):
        return [] if type(rest[0]) is str and expression_fits(rest[0]) and expression_fits(rest[1]) else None
    if (word, len(rest)) in (("we", 2), ("they", 2)):
        blocks = list(rest)
    elif (word, len(rest)) == ("if", 3) and is_test(rest[0]):
        blocks = list(rest[1:])
    elif (word, len(rest)) == ("repeat", 2) and is_integer(rest[0]) and 0 < rest[0] < 9:
        blocks = list(rest[1:])
    else:
        return None
    return blocks if all(type(block) is tuple for block in blocks) else None


def unrolled(block):
    """Yield each statement of a program as often as its weight counts it."""
    for statement in block:
        yield statement
        for _ in range(statement[1] if statement[0] == "repeat" else 1):
            for inner in blocks_in(statement):
                yield from unrolled(inner)


def slow_error(value):
    """Return what program_error must return for any value."""
    if type(value) is not tuple:
        return (None, "program")
    waiting = [(0, item) for item in value][::-1]
    place = 0
    while waiting:
        depth, item = waiting.pop()
        if depth > 3:
            return (place, "nest")
        blocks = blocks_in(item)
        if blocks is None:
            return (place, "statement")
        place += 1
        waiting += [(depth + 1, inner) for block in blocks for inner in block][::-1]
    if place > 24:
        return (None, "places")
    all_of = list(unrolled(value))
    tests = [str(statement[1]) for statement in all_of if statement[0] == "if"]
    counts = [
        ("weight", len(all_of), 30),
        ("choices", len([1 for statement in all_of if statement[0] in ("we", "they")]), 4),
        ("rests", len([1 for test in tests if "'rest'" in test]), 2),
        ("comparings", len([1 for test in tests if "'less'" in test]), 2),
    ]
    return next(((None, word) for word, many, most in counts if many > most), None)


PARTS = [0, 1, 2, 6, 7, 9, 10, 99, -99, -100, True, False, None, "", "n", "pay", "abcdefghi", "A"]
PARTS += [(), [], {}, STOP, SMALL, EVEN]


def random_expression(source, deep):
    pick = source.randrange(5) if deep else source.randrange(2)
    if pick < 2:
        return source.choice([0, 5, -99, 99, "n", "a", "b2"])
    if pick == 2:
        return ("times", source.randint(-9, 9), random_expression(source, deep - 1))
    word = source.choice(["plus", "minus"])
    return (word, random_expression(source, deep - 1), random_expression(source, deep - 1))


def random_test(source, nots):
    if nots and source.randrange(3) == 0:
        return ("not", random_test(source, nots - 1))
    if source.randrange(2):
        return ("less", random_expression(source, 2), random_expression(source, 2))
    by = source.randint(2, 6)
    return ("rest", random_expression(source, 2), by, source.randrange(by))


def random_statement(source, levels):
    word = source.choice(["set", "pay", "stop"] + ["if", "we", "they", "repeat"] * (levels > 0))
    if word == "set":
        return (word, source.choice(["n", "a", "b2"]), random_expression(source, 2))
    if word == "pay":
        return (word, random_expression(source, 2))
    if word == "stop":
        return (word,)
    if word == "repeat":
        return (word, source.randint(1, 4), random_block(source, levels - 1, 3))
    head = (word, random_test(source, 2)) if word == "if" else (word,)
    return (*head, random_block(source, levels - 1, 2), random_block(source, levels - 1, 2))


def random_block(source, levels, most):
    """Return a block of at most so many statements, with at most so many levels in them."""
    return tuple(random_statement(source, levels) for _ in range(source.randrange(most + 1)))


def random_program(source, fits=lambda program: True):
    """Return a program with at least one statement for which fits is true."""
    while True:
        program = random_block(source, 3, 5)
        if program and fits(program) and slow_error(program) is None:
            return program


def has_word(block, word):
    """Return whether a statement of this word stands somewhere in a block."""
    return any(statement[0] == word for statement in unrolled(block))


def with_part_replaced(source, value):
    """Return the value with one part of it replaced, left out or doubled."""
    if not isinstance(value, tuple) or not value or source.randrange(5) == 0:
        return source.choice(PARTS)
    at = source.randrange(len(value))
    middle = source.choice([(), (value[at],) * 2] + [(with_part_replaced(source, value[at]),)] * 6)
    return (*value[:at], *middle, *value[at + 1:])
