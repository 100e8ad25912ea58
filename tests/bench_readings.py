"""A second reading of benches: statements are objects that know whether they are given."""

import itertools

from samples import blocks_in, is_integer, slow_error
from weandthey.verdicts import lost

ARGUMENTS = {"add": 1, "drop": 1, "change": 2, "give": 1, "take": 1}


class Node:
    """A statement, with lists of nodes for its blocks."""

    def __init__(self, statement):
        blocks = blocks_in(statement)
        self.head = statement[:len(statement) - len(blocks)]
        self.blocks = [nodes_of(block) for block in blocks]
        self.given = False

    def all_of(self):
        yield self
        for block in self.blocks:
            for node in block:
                yield from node.all_of()

    def statement(self, gifted=False):
        head = ("we", *self.head[1:]) if gifted and self.given else self.head
        return (*head, *[tuple(node.statement(gifted) for node in block) for block in self.blocks])


def nodes_of(block):
    return [Node(statement) for statement in block]


class Failure(Exception):
    """What is raised in the place of an error: its name and its fields."""

    def __init__(self, *told):
        super().__init__(told)
        self.told = told


class SlowState:
    """A program and a gift."""

    def __init__(self, program, gift):
        self.nodes = nodes_of(program)
        for place, node in enumerate(self.places()):
            node.given = place in gift

    def places(self):
        return [node for top in self.nodes for node in top.all_of()]

    def told(self, gifted=False):
        program = tuple(node.statement(gifted) for node in self.nodes)
        return (program, tuple(place for place, node in enumerate(self.places()) if node.given))

    def lists(self):
        """Return all lists of nodes: the program's and those of all blocks."""
        return [self.nodes, *itertools.chain(*[node.blocks for node in self.places()])]

    def do(self, name, *values):
        if name == "add":
            self.ask(slow_error(self.told()[0] + values))
            self.nodes.append(Node(values[0]))
            return
        place = values[0]
        if not is_integer(place) or not 0 <= place < len(self.places()):
            raise Failure("NoPlace", place)
        node = self.places()[place]
        if name == "give":
            if node.head[0] != "they":
                raise Failure("NotTheirs", place)
            if node.given:
                raise Failure("IsGiven", place)
            node.given = True
        elif name == "take":
            if not node.given:
                raise Failure("NotGiven", place)
            node.given = False
        elif name == "drop":
            self.holder(node).remove(node)
        else:
            self.ask(slow_error(self.with_value(node, values[1])))
            holder = self.holder(node)
            holder[holder.index(node)] = Node(values[1])

    def holder(self, node):
        return next(held for held in self.lists() if any(item is node for item in held))

    def with_value(self, node, value):
        """Return the program with any value in the place of a node."""
        def shown(item):
            if item is node:
                return value
            return (*item.head, *[tuple(shown(inner) for inner in block) for block in item.blocks])
        return tuple(shown(item) for item in self.nodes)

    def ask(self, error):
        if error is not None:
            raise Failure("BadProgram", error)


class SlowBench:
    """A bench that does all its edits anew whenever it is asked."""

    def __init__(self, program, gift=(), won=False):
        self.first = (program, gift)
        self.won = won
        self.done = []
        self.undone = []

    def replayed(self, edits):
        state = SlowState(*self.first)
        for name, *values in edits:
            if name == "give_fewest":
                program = state.told()[0]
                state = SlowState(program, self.fewest(program))
            elif name == "attempt":
                for item in values[0]:
                    state.do(*item)
            else:
                state.do(name, *values)
        return state

    def fewest(self, program):
        theirs = [place for place, node in enumerate(SlowState(program, ()).places()) if node.head[0] == "they"]
        for many in range(len(theirs) + 1):
            for gift in itertools.combinations(theirs, many):
                if lost(SlowState(program, gift).told(True)[0]) is None:
                    return gift
        raise Failure("NoGift")

    def state(self):
        return self.replayed(self.done).told()

    def stand(self, edit):
        """Let an edit stand, or raise what it raises."""
        if len(self.done) >= 60:
            raise Failure("TooManyEdits")
        state = self.replayed([*self.done, edit])
        number = lost(state.told(True)[0]) if self.won else None
        if number is not None:
            raise Failure("Lost", number)
        self.done.append(edit)
        self.undone = []
        return len(self.done)

    def do(self, name, *values):
        """Do what a method of a bench does, or raise Failure."""
        if name == "undo":
            if not self.done:
                raise Failure("NothingToUndo")
            self.undone.append(self.done.pop())
            return len(self.done)
        if name == "redo":
            if not self.undone:
                raise Failure("NothingToRedo")
            self.done.append(self.undone.pop())
            return len(self.done)
        if name == "attempt":
            return self.attempt(*values)
        return self.stand((name, *values))

    def attempt(self, items, most=99):
        """Do the items, but at most so many, which is what a watch does that ends it."""
        if type(items) not in (list, tuple) or len(items) > 20:
            raise Failure("BadEdits")
        for index, item in enumerate(items):
            if type(item) is not tuple or not item or type(item[0]) is not str or ARGUMENTS.get(item[0]) != len(item) - 1:
                raise Failure("BadEdit", index)
        if not items:
            return 0
        if len(self.done) >= 60:
            raise Failure("TooManyEdits")
        state = self.replayed(self.done)
        for index, item in enumerate(items[:most]):
            try:
                state.do(*item)
            except Failure:
                raise Failure("Rejected", index)
        self.stand(("attempt", tuple(items[:most])))
        return min(most, len(items))
