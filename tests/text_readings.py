"""A second reading of texts: lines by patterns, blocks by recursion."""

import re

from samples import WORDS, slow_error

INTEGER = r"(?:0|-?[1-9][0-9]{0,19})"
NAME = r"[a-z][a-z0-9]{0,7}"
ATOM = rf"(?:{INTEGER}|{NAME}|@[0-9]+@)"
PAIR = re.compile(rf"\(({ATOM}) ([+*-]) ({ATOM})\)")


class Wrong(Exception):
    pass


def slow_expression(text):
    """Return the expression that a text writes, or None: brackets are replaced from the inside by numbers."""
    if "@" in text:
        return None
    found = []

    def atom(word):
        """Return an expression and how deep it is."""
        if word.startswith("@"):
            return found[int(word[1:-1])]
        if re.fullmatch(INTEGER, word):
            return (int(word), 1)
        if word in WORDS:
            raise Wrong
        return (word, 1)

    def pair(match):
        (one, deep), (other, deeper) = atom(match[1]), atom(match[3])
        if match[2] == "*":
            if type(one) is not int:
                raise Wrong
            deep = 0
        found.append((({"+": "plus", "-": "minus", "*": "times"}[match[2]], one, other), 1 + max(deep, deeper)))
        return f"@{len(found) - 1}@"

    try:
        for _ in range(25):
            text = PAIR.sub(pair, text)
        if not re.fullmatch(ATOM, text):
            return None
        expression, deep = atom(text)
    except Wrong:
        return None
    return expression if deep <= 20 else None


def slow_test(text):
    nots = 0
    while text.startswith("not "):
        nots, text = nots + 1, text[4:]
    match = re.fullmatch(rf"rest ({INTEGER}) of ({INTEGER}) (.*)", text)
    if match:
        test = ("rest", slow_expression(match[3]), int(match[2]), int(match[1]))
    elif text.count(" < ") == 1:
        one, other = text.split(" < ")
        test = ("less", slow_expression(one), slow_expression(other))
    else:
        return None
    if nots > 20 or None in test:
        return None
    for _ in range(nots):
        test = ("not", test)
    return test


def slow_head(line):
    """Return the statement that a line begins, without blocks, or None."""
    match = re.fullmatch(rf"set ({NAME}) (.*)", line)
    if match and match[1] not in WORDS:
        head = ("set", match[1], slow_expression(match[2]))
    elif line.startswith("pay "):
        head = ("pay", slow_expression(line[4:]))
    elif line.startswith("if "):
        head = ("if", slow_test(line[3:]))
    elif re.fullmatch(f"repeat {INTEGER}", line):
        head = ("repeat", int(line[7:]))
    elif line in ("stop", "we", "they"):
        head = (line,)
    else:
        return None
    return None if None in head else head


class SlowReader:
    """Reads blocks by recursion; at is the index of the next line, and Wrong is raised where it cannot stand."""

    def __init__(self, lines):
        self.lines = lines
        self.at = 1

    def next_is(self, depth, content):
        return self.at < len(self.lines) and self.lines[self.at] == "  " * depth + content

    def head(self, depth):
        """Return the head of the statement in the next line if it is of this depth, or None."""
        if self.at >= len(self.lines):
            return None
        match = re.fullmatch("((?:  )*)(|[^ ].*)", self.lines[self.at], re.DOTALL)
        if not match or len(match[1]) != 2 * depth:
            return None
        return slow_head(match[2])

    def block(self, depth, may_pass):
        if may_pass and self.next_is(depth, "pass"):
            self.at += 1
            return ()
        statements = []
        while (head := self.head(depth)) is not None:
            self.at += 1
            statements.append(head + self.blocks(head[0], depth))
        if depth and not statements:
            raise Wrong
        return tuple(statements)

    def blocks(self, word, depth):
        if word in ("set", "pay", "stop"):
            return ()
        first = self.block(depth + 1, True)
        if word == "repeat":
            return (first,)
        if word == "if" and not self.next_is(depth, "else"):
            return (first, ())
        if not self.next_is(depth, "else" if word == "if" else "or"):
            raise Wrong
        self.at += 1
        return (first, self.block(depth + 1, word != "if"))


def slow_parse(value):
    """Return ("program", program), ("text", line) or ("error", error) for what parse_program must return or raise."""
    if type(value) is not str:
        return ("text", None)
    lines = value.split("\n")
    if lines[0] != "program":
        return ("text", 0)
    reader = SlowReader(lines)
    try:
        program = reader.block(0, False)
    except Wrong:
        return ("text", reader.at)
    if reader.at < len(lines):
        return ("text", reader.at)
    error = slow_error(program)
    return ("program", program) if error is None else ("error", error)
