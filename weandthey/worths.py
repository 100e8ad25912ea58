"""Worth: what we can be sure to be paid on a number, and the plans of both hands."""

from weandthey.programs import is_within
from weandthey.runs import tree_of


def worth_in(tree):
    """Return the worth of a tree of runs."""
    if isinstance(tree, int):
        return tree
    behind = [worth_in(tree[1]), worth_in(tree[2])]
    return max(behind) if tree[0] == "we" else min(behind)


def worth(program, number):
    """Return the worth of the program on a number."""
    return worth_in(tree_of(program, number))


def plan_in(tree, hand):
    """Return the plan of a hand that meets the worth of a tree, with 0 where both turns do."""
    if isinstance(tree, int):
        return ()
    if tree[0] != hand:
        return (plan_in(tree[1], hand), plan_in(tree[2], hand))
    turn = 0 if worth_in(tree[1]) == worth_in(tree) else 1
    return (turn, plan_in(tree[1 + turn], hand))


def plan_of(program, number, hand):
    """Return a plan of the hand that is sure of the worth whatever the other one chooses."""
    return plan_in(tree_of(program, number), hand)


def plan_holds_in(tree, hand, bound, value):
    """Return whether value is a plan of the hand for a tree that is sure of the bound."""
    if not isinstance(value, tuple):
        return False
    if isinstance(tree, int):
        kept = tree >= bound if hand == "we" else tree <= bound
        return len(value) == 0 and kept
    if len(value) != 2:
        return False
    if tree[0] == hand:
        return is_within(value[0], 0, 1) and plan_holds_in(tree[1 + value[0]], hand, bound, value[1])
    return plan_holds_in(tree[1], hand, bound, value[0]) and plan_holds_in(tree[2], hand, bound, value[1])


def plan_holds(program, number, hand, bound, value):
    """Return whether value is a plan of the hand that is sure of the bound, whatever the other one chooses."""
    return plan_holds_in(tree_of(program, number), hand, bound, value)
