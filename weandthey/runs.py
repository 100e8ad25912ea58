"""Runs: what a program does on a number, by the choices that are made."""

HANDS = ("we", "they")


def value_of(expression, names):
    """Return the value of an expression; a name that was never set is 0."""
    if isinstance(expression, int):
        return expression
    if isinstance(expression, str):
        return names.get(expression, 0)
    word, one, other = expression
    if word == "times":
        return one * value_of(other, names)
    if word == "plus":
        return value_of(one, names) + value_of(other, names)
    return value_of(one, names) - value_of(other, names)


def is_true(test, names):
    """Return whether a test is true with these values of the names."""
    if test[0] == "not":
        return not is_true(test[1], names)
    value = value_of(test[1], names)
    if test[0] == "less":
        return value < value_of(test[2], names)
    return value % test[2] == test[3]


def to_choice(names, total, ahead):
    """Execute the block ahead up to its next choice; return the names, the total and what is ahead then.

    Blocks that are entered are put in front of what is ahead; so it is all that
    is left of the run, and () means that the run has ended.
    """
    names = dict(names)
    while ahead and ahead[0][0] not in HANDS:
        statement, ahead = ahead[0], ahead[1:]
        if statement[0] == "set":
            names[statement[1]] = value_of(statement[2], names)
        elif statement[0] == "pay":
            total += value_of(statement[1], names)
        elif statement[0] == "if":
            ahead = (statement[2] if is_true(statement[1], names) else statement[3]) + ahead
        elif statement[0] == "repeat":
            ahead = statement[2] * statement[1] + ahead
        else:
            ahead = ()
    return (names, total, ahead)


def run(program, number, turns):
    """Return (total, turns, hands) for the run on a number that goes by these turns."""
    names, total, ahead = to_choice({"n": number}, 0, program)
    made = []
    hands = []
    while ahead:
        turn = turns[len(made)] if len(made) < len(turns) else 0
        made.append(turn)
        hands.append(ahead[0][0])
        names, total, ahead = to_choice(names, total, ahead[0][1 + turn] + ahead[1:])
    return (total, tuple(made), tuple(hands))


def tree_behind(names, total, ahead):
    """Return the tree of all that can come of the block ahead."""
    names, total, ahead = to_choice(names, total, ahead)
    if not ahead:
        return total
    hand, one, other = ahead[0]
    behind = [tree_behind(names, total, block + ahead[1:]) for block in (one, other)]
    return (hand, *behind)


def tree_of(program, number):
    """Return all runs on a number as a tree: a total, or (hand, tree behind 0, tree behind 1) at a choice."""
    return tree_behind({"n": number}, 0, program)


def runs_in(tree, turns, hands):
    """Return the list of the runs in a tree, in the order of their turns, with those made ahead of it."""
    if isinstance(tree, int):
        return [(tree, turns, hands)]
    hand, one, other = tree
    return runs_in(one, (*turns, 0), (*hands, hand)) + runs_in(other, (*turns, 1), (*hands, hand))


def each_run(program, number):
    """Yield (total, turns, hands) for each run on a number, in ascending order of the turns."""
    for row in runs_in(tree_of(program, number), (), ()):
        yield row
