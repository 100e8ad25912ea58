"""Benches: a program and a gift that are edited, with undo."""

from weandthey.bounds import BATCH
from weandthey.errors import BadEdit, BadEdits, BadGift, BadNumber, BadProgram, BadTurns, Busy, IsGiven, Lost
from weandthey.errors import NoGift, NoPlace, NotGiven, NothingToRedo, NothingToUndo, NotTheirs, NoVersion
from weandthey.errors import PlayError, Rejected, TooManyEdits
from weandthey.gifts import fewest_gift, gifted, is_gift
from weandthey.programs import blocks_of, has_form, is_integer, is_within, program_error, rebuilt, size_of, statement_at
from weandthey.runs import run, tree_of
from weandthey.verdicts import lost
from weandthey.worths import worth_in

# The name of each edit that an attempt may have, and how many items it has, the name counted.
EDITS = (("add", 2), ("drop", 2), ("change", 3), ("give", 2), ("take", 2))


def replaced(block, place, new):
    """Return the block with a tuple of statements in the place of the one at a place, counted from its own first."""
    out = []
    for statement in block:
        if place == 0:
            out.extend(new)
        else:
            out.append(replaced_within(statement, place - 1, new))
        place -= size_of((statement,))
    return tuple(out)


def replaced_within(statement, place, new):
    """Return the statement with others in the place of one, counted from the first one in its blocks."""
    blocks = []
    for inner in blocks_of(statement):
        blocks.append(replaced(inner, place, new))
        place -= size_of(inner)
    return rebuilt(statement[0], statement, blocks)


def given_more(gift, place, statement):
    """Return the gift with a place that has this statement."""
    if statement[0] != "they":
        raise NotTheirs(place)
    if place in gift:
        raise IsGiven(place)
    return tuple(sorted([*gift, place]))


def given_less(gift, place):
    """Return the gift without a place."""
    if place not in gift:
        raise NotGiven(place)
    return tuple([given for given in gift if given != place])


def moved_along(gift, place, size, many):
    """Return the gift when so many places come for those from a place on that a statement of this size had."""
    kept = [given for given in gift if not place <= given < place + size]
    return tuple([given if given < place else given + many - size for given in kept])


def asked(program):
    """Return the program; raise BadProgram if it is none."""
    error = program_error(program)
    if error is not None:
        raise BadProgram(error)
    return program


def edited(program, gift, edit):
    """Return (program, gift) behind an edit: a tuple of one of the names in EDITS and its values."""
    if edit[0] == "add":
        return (asked(program + edit[1:]), gift)
    place = edit[1]
    statement = statement_at(program, place)
    if edit[0] == "give":
        return (program, given_more(gift, place, statement))
    if edit[0] == "take":
        return (program, given_less(gift, place))
    new = edit[2:]
    program = asked(replaced(program, place, new))
    return (program, moved_along(gift, place, size_of((statement,)), size_of(new)))


class Bench:
    """A program and a gift that are edited.

    done has the edits that stand, states the (program, gift) of each version,
    and undone an (edit, state) for each edit that undo has removed, the last
    one last. busy tells that a watch runs or its result is asked.
    """

    MOST_EDITS = 60

    def __init__(self, program, gift=()):
        self.program = asked(program)
        if not is_gift(program, gift):
            raise BadGift(gift)
        self.refuse_lost(program, gift)
        self.gift = gift
        self.done = ()
        self.states = ((program, gift),)
        self.undone = ()
        self.busy = False

    def refuse_lost(self, program, gift):
        """Raise nothing: this bench takes every program with every gift."""

    def refuse_busy(self):
        """Raise Busy while a watch runs."""
        if self.busy:
            raise Busy()

    def refuse_edit(self):
        """Raise an error if no edit at all may be done now."""
        self.refuse_busy()
        if len(self.done) >= self.MOST_EDITS:
            raise TooManyEdits()

    def show(self, done, states):
        """Let just these edits stand, with the states of all versions."""
        self.done = done
        self.states = states
        self.program, self.gift = states[-1]

    def stand(self, edit, program, gift):
        """Let an edit stand that leads to this program and gift; return the new version."""
        self.refuse_lost(program, gift)
        self.show(self.done + (edit,), self.states + ((program, gift),))
        self.undone = ()
        return len(self.done)

    def do_edit(self, edit):
        """Do an edit of EDITS; return the new version."""
        self.refuse_edit()
        program, gift = edited(self.program, self.gift, edit)
        return self.stand(edit, program, gift)

    def add(self, statement):
        """Put a statement at the end of the program's block; return the new version."""
        return self.do_edit(("add", statement))

    def drop(self, place):
        """Remove the statement at a place, with its blocks; return the new version."""
        return self.do_edit(("drop", place))

    def change(self, place, statement):
        """Put a statement in the place of another one and its blocks; return the new version."""
        return self.do_edit(("change", place, statement))

    def give(self, place):
        """Put a place into the gift; return the new version."""
        return self.do_edit(("give", place))

    def take(self, place):
        """Take a place out of the gift; return the new version."""
        return self.do_edit(("take", place))

    def __getitem__(self, at):
        return statement_at(self.program, at)

    def __setitem__(self, at, worth):
        self.change(at, worth)

    def __iter__(self):
        raise TypeError("a bench is not iterated over")

    def __iadd__(self, other):
        self.add(other)
        return self

    def __isub__(self, other):
        self.drop(other)
        return self

    def give_fewest(self):
        """Let the gift be the one that fewest_gift returns; return the new version."""
        self.refuse_edit()
        gift = fewest_gift(self.program)
        if gift is None:
            raise NoGift()
        return self.stand(("give_fewest",), self.program, gift)

    def undo(self):
        """Remove the last edit that stands; return the new version."""
        self.refuse_busy()
        if not self.done:
            raise NothingToUndo()
        self.undone = self.undone + ((self.done[-1], self.states[-1]),)
        self.show(self.done[:-1], self.states[:-1])
        return len(self.done)

    def redo(self):
        """Put the edit that was removed last in its place again; return the new version."""
        self.refuse_busy()
        if not self.undone:
            raise NothingToRedo()
        edit, state = self.undone[-1]
        self.undone = self.undone[:-1]
        self.show(self.done + (edit,), self.states + (state,))
        return len(self.done)

    def attempt(self, edits, *, watch=None):
        """Do several edits as one, until watch ends it; return how many were done."""
        self.refuse_busy()
        if not isinstance(edits, (list, tuple)) or len(edits) > BATCH:
            raise BadEdits()
        items = tuple(edits)
        for index, item in enumerate(items):
            if not has_form(item, EDITS):
                raise BadEdit(index)
        if not items:
            return 0
        self.refuse_edit()
        return self.do_or_restore(items, watch)

    def do_or_restore(self, items, watch):
        """Do the items of an attempt; return how many. If anything is raised all is as it was ahead."""
        done, states, undone, program, gift = self.done, self.states, self.undone, self.program, self.gift
        self.busy = True
        try:
            many = self.do_items(items, watch)
            self.refuse_lost(self.program, self.gift)
            done, states, undone, program, gift = self.done, self.states, (), self.program, self.gift
            return many
        finally:
            self.busy = False
            self.done, self.states, self.undone, self.program, self.gift = done, states, undone, program, gift

    def do_items(self, items, watch):
        """Do the items one by one until watch, called after each, ends it; return how many were done."""
        done, states = self.done, self.states
        for index, item in enumerate(items):
            try:
                state = edited(self.program, self.gift, item)
            except (PlayError, NoPlace):
                raise Rejected(index) from None
            self.show(done + (("attempt", items[:index + 1]),), states + (state,))
            if watch is not None and watch(self):
                return index + 1
        return len(items)

    def verdict(self):
        """Return the first number on which the program, given the gift, is lost, or None."""
        return lost(gifted(self.program, self.gift))

    def outcome(self, number, turns):
        """Return (total, turns, hands) for the run of the program, given the gift."""
        if not is_integer(number):
            raise BadNumber(number)
        if not isinstance(turns, tuple) or not all([is_within(turn, 0, 1) for turn in turns]):
            raise BadTurns(turns)
        return run(gifted(self.program, self.gift), number, turns)

    def told(self, number, *, version=None):
        """Return the worth of the program, given the gift, of this version."""
        program, gift = self.state(version=version)
        if not is_integer(number):
            raise BadNumber(number)
        return worth_in(tree_of(gifted(program, gift), number))

    def state(self, *, version=None):
        """Return (program, gift) of this version, or of the present one."""
        if version is None:
            return self.states[-1]
        if not is_within(version, 0, len(self.done)):
            raise NoVersion(version)
        return self.states[version]

    def edits(self):
        """Return the tuple of the edits that stand."""
        return self.done

    def __len__(self):
        return len(self.done)

    def __str__(self):
        return f"{size_of(self.program)} statements, {len(self.gift)} given, {len(self.done)} edits"

    def __eq__(self, other):
        return (
            isinstance(other, Bench)
            and isinstance(self, WonBench) == isinstance(other, WonBench)
            and self.program == other.program
            and self.gift == other.gift
        )


class WonBench(Bench):
    """A bench whose program is won, when the gift is given, in each of its versions."""

    def refuse_lost(self, program, gift):
        """Raise Lost if the program, given the gift, is not won."""
        number = lost(gifted(program, gift))
        if number is not None:
            raise Lost(number)
