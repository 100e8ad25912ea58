"""Papers: what shows whether a program is won, and can be checked without a search."""

from weandthey.lines import cut
from weandthey.programs import is_integer, is_within
from weandthey.stretches import are_parted, has_any, is_piece, parts_by
from weandthey.tables import charts_of
from weandthey.verdicts import first_lost, plans_of
from weandthey.worths import plan_holds, plan_of


def paper_of(program):
    """Return the paper that shows whether the program is won."""
    pieces = plans_of(program)
    number = first_lost(pieces)
    if number is None:
        return ("won", tuple(pieces))
    return ("lost", number, plan_of(program, number, "they"))


def failures(chart, plan, low, high):
    """Return a list of (low, high): where plan is not a plan of ours with which the total is at least 0."""
    if not has_any(0, 1, low, high):
        return []
    word, told, one, other = chart
    if word == "less":
        true, false = cut(low, high, told)
        return failures(one, plan, true[0], true[1]) + failures(other, plan, false[0], false[1])
    if not isinstance(plan, tuple) or len(plan) != (0 if word == "end" else 2):
        return [(low, high)]
    if word == "end":
        return [cut(low, high, told)[1]]
    if word == "they":
        return failures(one, plan[0], low, high) + failures(other, plan[1], low, high)
    if not is_within(plan[0], 0, 1):
        return [(low, high)]
    return failures(other if plan[0] else one, plan[1], low, high)


def is_kept(piece, charts, places):
    """Return whether the plan of a piece is one with which the total is at least 0 on each of its integers."""
    low, high, plan = piece[2:]
    failed = {}
    for rest, by in parts_by(piece[0], piece[1], len(places)):
        place = places[rest % len(places)]
        if place not in failed:
            failed[place] = failures(charts[place], plan, low, high)
        if any([has_any(rest, by, least, greatest) for least, greatest in failed[place]]):
            return False
    return True


def won_holds(program, pieces):
    """Return whether pieces show that the program is won."""
    if not isinstance(pieces, tuple) or not all([is_piece(piece) for piece in pieces]) or not are_parted(pieces):
        return False
    charts, places = charts_of(program)
    return all([is_kept(piece, charts, places) for piece in pieces])


def paper_holds(program, value):
    """Return whether value is a paper that holds for the program."""
    if not isinstance(value, tuple) or len(value) not in (2, 3):
        return False
    if len(value) == 2:
        return value[0] == "won" and won_holds(program, value[1])
    word, number, plan = value
    return word == "lost" and is_integer(number) and plan_holds(program, number, "they", -1, plan)
