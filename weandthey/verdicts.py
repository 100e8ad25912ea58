"""Verdicts: what is so of programs on all numbers, or the first number on which it is not."""

from weandthey.lines import cut, joined
from weandthey.stretches import cells_of, first_in, first_of, has_any, pieces_of
from weandthey.tables import columns_in, worth_of


def plan_at_end(form, low, high):
    """Return the parts at the end of a run: with () where the total is at least 0, with None where it is not."""
    kept, failed = cut(low, high, form)
    parts = [(*kept, ()), (*failed, None)]
    return [part for part in (parts[::-1] if form[0] > 0 else parts) if has_any(0, 1, part[0], part[1])]


def plan_at_fork(hand, one, other):
    """Return the plan of ours at a choice, by those behind both turns, or None if they do not let us keep to 0."""
    if hand == "they":
        return None if one is None or other is None else (one, other)
    if one is not None:
        return (0, one)
    return None if other is None else (1, other)


def plan_at_choice(hand, one, other):
    """Return the parts with our plans at a choice, by those behind both turns."""
    cells = cells_of((one,), (other,))
    found = [(rest, by, low, high, plan_at_fork(hand, mine, beside)) for rest, by, low, high, mine, beside in cells]
    return [piece[2:] for piece in joined(found)]


def plans_of(program):
    """Return a list of parted pieces that end in a plan of ours with which the total is at least 0, or in None."""
    return pieces_of(columns_in(program, plan_at_end, plan_at_choice))


def first_lost(pieces):
    """Return the first number in those pieces that end in None, or None."""
    return first_of([first_in(rest, by, low, high) for rest, by, low, high, plan in pieces if plan is None])


def lost(program):
    """Return the first number on which the worth of the program is below 0, or None."""
    return first_lost(plans_of(program))


def alike(one, other):
    """Return the first number on which two programs have unlike worths, or None."""
    return worth_of(one).first_unlike(worth_of(other))


def above(one, other):
    """Return the first number on which one program has a greater worth than the other one, or None."""
    return worth_of(one).first_above(worth_of(other))
