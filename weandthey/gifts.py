"""Gifts: choices of theirs that become ours."""

from weandthey.programs import blocks_of, is_integer, rebuilt, rows_in, size_of
from weandthey.verdicts import lost
from weandthey.worths import worth


def theirs_in(program):
    """Return the list of the places at which they choose, in ascending order."""
    return [place for place, row in enumerate(rows_in(program, 0)) if row[1][0] == "they"]


def is_gift(program, value):
    """Return whether value is a gift of the program."""
    if not isinstance(value, tuple) or not all([is_integer(place) for place in value]):
        return False
    theirs = theirs_in(program)
    return all([place in theirs for place in value]) and list(value) == sorted(set(value))


def given_in(block, place, gift):
    """Return the block, which begins at this place, with "we" in the place of "they" at the places of the gift."""
    out = []
    for statement in block:
        word = "we" if place in gift else statement[0]
        place += 1
        blocks = []
        for inner in blocks_of(statement):
            blocks.append(given_in(inner, place, gift))
            place += size_of(inner)
        out.append(rebuilt(word, statement, blocks))
    return tuple(out)


def gifted(program, gift):
    """Return the program with "we" in the place of "they" at the places of the gift."""
    return given_in(program, 0, gift)


def gifts_from(places, many):
    """Return the list of all gifts of so many of the places, in ascending order."""
    if many == 0:
        return [()]
    gifts = []
    for at, place in enumerate(places):
        gifts.extend([(place, *behind) for behind in gifts_from(places[at + 1:], many - 1)])
    return gifts


def fewest_gift(program):
    """Return the first one of the smallest gifts with which the program is won, or None if there is none."""
    theirs = theirs_in(program)
    failed = []
    for many in range(len(theirs) + 1):
        for gift in gifts_from(theirs, many):
            given = gifted(program, gift)
            # A number on which one gift fails lets most others fail, too, and is quickly tried.
            if any([worth(given, known) < 0 for known in failed]):
                continue
            number = lost(given)
            if number is None:
                return gift
            failed.append(number)
    return None
