"""Programs: what is one, and its places, its weight and its turned form."""

from weandthey.bounds import MAX_BY, MAX_CHOICES, MAX_COMPARINGS, MAX_DEEP, MAX_NAME, MAX_NEST
from weandthey.bounds import MAX_NOTS, MAX_PLACES, MAX_RESTS, MAX_TIMES, MAX_WEIGHT
from weandthey.errors import NoPlace

LETTERS = "abcdefghijklmnopqrstuvwxyz"
DIGITS = "0123456789"
WORDS = (
    "set", "pay", "stop", "if", "else", "we", "they",
    "or", "repeat", "pass", "rest", "of", "not", "program",
)
MAX_CONSTANT = 99
MAX_FACTOR = 9

# Each word that begins a tuple, and how many items that tuple has, the word counted.
STATEMENTS = (("set", 3), ("pay", 2), ("if", 4), ("we", 3), ("they", 3), ("repeat", 3), ("stop", 1))
TESTS = (("less", 3), ("rest", 4), ("not", 2))
EXPRESSIONS = (("plus", 3), ("minus", 3), ("times", 3))

OTHER_HANDS = {"we": "they", "they": "we"}

# All that kind_of returns.
KINDS = ("set", "pay", "less", "rest", "we", "they", "repeat", "stop")


def is_integer(value):
    """Return whether value is an integer; a bool is none."""
    return isinstance(value, int) and not isinstance(value, bool)


def is_within(value, low, high):
    """Return whether value is an integer from low to high."""
    return is_integer(value) and low <= value <= high


def is_name(value):
    """Return whether value is a name."""
    if not isinstance(value, str) or not 1 <= len(value) <= MAX_NAME:
        return False
    if value in WORDS or value[0] not in LETTERS:
        return False
    return all([sign in LETTERS or sign in DIGITS for sign in value])


def has_form(value, forms):
    """Return whether value is a tuple with a word and a length that stand together in forms."""
    return isinstance(value, tuple) and len(value) > 0 and (value[0], len(value)) in forms


def is_expression(value, deep):
    """Return whether value is an expression with at most deep ones in one another."""
    if deep == 0:
        return False
    if is_within(value, -MAX_CONSTANT, MAX_CONSTANT) or is_name(value):
        return True
    if not has_form(value, EXPRESSIONS) or not is_expression(value[2], deep - 1):
        return False
    if value[0] == "times":
        return is_within(value[1], -MAX_FACTOR, MAX_FACTOR)
    return is_expression(value[1], deep - 1)


def is_test(value, nots):
    """Return whether value is a test with at most so many "not" in one another."""
    if not has_form(value, TESTS):
        return False
    if value[0] == "not":
        return nots > 0 and is_test(value[1], nots - 1)
    if not is_expression(value[1], MAX_DEEP):
        return False
    if value[0] == "less":
        return is_expression(value[2], MAX_DEEP)
    return is_within(value[2], 2, MAX_BY) and is_within(value[3], 0, value[2] - 1)


def blocks_of(statement):
    """Return the tuple of the blocks of a statement."""
    if statement[0] in ("we", "they"):
        return statement[1:]
    if statement[0] in ("if", "repeat"):
        return statement[2:]
    return ()


def is_statement(value):
    """Return whether value is a statement, whatever is in its blocks."""
    if not has_form(value, STATEMENTS):
        return False
    if value[0] == "set":
        return is_name(value[1]) and is_expression(value[2], MAX_DEEP)
    if value[0] == "pay":
        return is_expression(value[1], MAX_DEEP)
    if value[0] == "if" and not is_test(value[1], MAX_NOTS):
        return False
    if value[0] == "repeat" and not is_within(value[1], 1, MAX_TIMES):
        return False
    return all([isinstance(block, tuple) for block in blocks_of(value)])


def fault_in(block, place, depth):
    """Return (place, word) for the first fault in a block that begins at this place.

    Without a fault it is (place, None) with the place behind the block.
    """
    for item in block:
        if depth > MAX_NEST:
            return (place, "nest")
        if not is_statement(item):
            return (place, "statement")
        place += 1
        for inner in blocks_of(item):
            place, word = fault_in(inner, place, depth + 1)
            if word is not None:
                return (place, word)
    return (place, None)


def kind_of(statement):
    """Return the word of a statement, for "if" the one of its test below every "not"."""
    if statement[0] != "if":
        return statement[0]
    test = statement[1]
    while test[0] == "not":
        test = test[1]
    return test[0]


def counted(block, kinds):
    """Return how many statements of these kinds a block has, those repeated as often as they are."""
    total = 0
    for statement in block:
        times = statement[1] if statement[0] == "repeat" else 1
        total += times * sum([counted(inner, kinds) for inner in blocks_of(statement)])
        if kind_of(statement) in kinds:
            total += 1
    return total


def bound_passed(program, places):
    """Return the word of the first bound that a program with so many places passes, or None."""
    if places > MAX_PLACES:
        return "places"
    if counted(program, KINDS) > MAX_WEIGHT:
        return "weight"
    if counted(program, ("we", "they")) > MAX_CHOICES:
        return "choices"
    if counted(program, ("rest",)) > MAX_RESTS:
        return "rests"
    if counted(program, ("less",)) > MAX_COMPARINGS:
        return "comparings"
    return None


def program_error(value):
    """Return None for a program, otherwise (place, word) for what is wrong with value first."""
    if not isinstance(value, tuple):
        return (None, "program")
    place, word = fault_in(value, 0, 0)
    if word is not None:
        return (place, word)
    word = bound_passed(value, place)
    return None if word is None else (None, word)


def rows_in(block, depth):
    """Return a list of (depth, statement) for all statements of a block, in order."""
    rows = []
    for statement in block:
        rows.append((depth, statement))
        for inner in blocks_of(statement):
            rows.extend(rows_in(inner, depth + 1))
    return rows


def size_of(block):
    """Return how many places a block has."""
    return len(rows_in(block, 0))


def each_statement(program):
    """Yield (place, depth, statement) for each statement, in the order of the places."""
    for place, (depth, statement) in enumerate(rows_in(program, 0)):
        yield (place, depth, statement)


def statement_at(program, place):
    """Return the statement at this place; raise NoPlace if there is none."""
    rows = rows_in(program, 0)
    if not is_within(place, 0, len(rows) - 1):
        raise NoPlace(place)
    return rows[place][1]


def weight(program):
    """Return the weight of the program's block."""
    return counted(program, KINDS)


def rebuilt(word, statement, blocks):
    """Return the statement with another word and a list of other blocks."""
    kept = statement[1:len(statement) - len(blocks)]
    return (word, *kept, *blocks)


def turned_statement(statement):
    """Return the statement with both hands exchanged and what it pays taken off."""
    if statement[0] == "pay":
        return ("pay", ("times", -1, statement[1]))
    word = OTHER_HANDS.get(statement[0], statement[0])
    return rebuilt(word, statement, [turned(block) for block in blocks_of(statement)])


def turned(program):
    """Return the program with both hands exchanged and every payment turned round."""
    return tuple([turned_statement(statement) for statement in program])
