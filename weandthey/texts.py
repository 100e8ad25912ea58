"""Texts of programs: written, and read again.

Reading takes programs in a wide sense, with few bounds; only what all lines
tell together is asked for the others. What reads a text returns None if it is
not the text of such a thing.
"""

from weandthey.errors import BadProgram, BadText
from weandthey.programs import DIGITS, blocks_of, is_integer, is_name, program_error
from weandthey.runs import HANDS

MOST_DIGITS = 20
MOST_DEEP = 20
MOST_NOTS = 20
INDENT = "  "
SIGNS = {"plus": " + ", "minus": " - ", "times": " * "}
SIGN_WORDS = {" + ": "plus", " - ": "minus", " * ": "times"}
# The line ahead of the second block of a statement that has one.
SECONDS = {"if": "else", "we": "or", "they": "or"}


def text_of_expression(expression):
    """Return the text of an expression."""
    if not isinstance(expression, tuple):
        return str(expression)
    word, one, other = expression
    return "(" + text_of_expression(one) + SIGNS[word] + text_of_expression(other) + ")"


def text_of_test(test):
    """Return the text of a test."""
    if test[0] == "not":
        return "not " + text_of_test(test[1])
    if test[0] == "less":
        return text_of_expression(test[1]) + " < " + text_of_expression(test[2])
    return f"rest {test[3]} of {test[2]} {text_of_expression(test[1])}"


def line_of(statement):
    """Return the line of a statement, without those of its blocks."""
    word = statement[0]
    if word == "set":
        return "set " + statement[1] + " " + text_of_expression(statement[2])
    if word == "pay":
        return "pay " + text_of_expression(statement[1])
    if word == "if":
        return "if " + text_of_test(statement[1])
    if word == "repeat":
        return f"repeat {statement[1]}"
    return word


def lines_of(block, indent):
    """Return the list of the lines of a block."""
    lines = []
    for statement in block:
        lines.append(indent + line_of(statement))
        for at, inner in enumerate(blocks_of(statement)):
            # An empty block no has no lines at all.
            if at == 1 and statement[0] == "if" and not inner:
                continue
            if at == 1:
                lines.append(indent + SECONDS[statement[0]])
            lines.extend(lines_of(inner, indent + INDENT) if inner else [indent + INDENT + "pass"])
    return lines


def program_text(program):
    """Return the text of the program."""
    return "\n".join(["program", *lines_of(program, "")])


def read_integer(word, digits):
    """Return the integer that a word writes with at most so many digits."""
    size = word.removeprefix("-")
    if not 1 <= len(size) <= digits or not all([sign in DIGITS for sign in size]):
        return None
    if size[0] == "0" and word != "0":
        return None
    return int(word)


def atom_at(text, at):
    """Return the integer or name that begins at an index of a text, and the index behind it."""
    end = at
    while end < len(text) and text[end] not in " ()":
        end += 1
    word = text[at:end]
    number = read_integer(word, MOST_DIGITS)
    if number is not None:
        return (number, end)
    return (word, end) if is_name(word) else None


def expression_at(text, at, deep):
    """Return the expression, at most so deep, that begins at an index of a text, and the index behind it."""
    if deep == 0:
        return None
    if not text.startswith("(", at):
        return atom_at(text, at)
    first = expression_at(text, at + 1, deep - 1)
    if first is None:
        return None
    one, at = first
    word = SIGN_WORDS.get(text[at:at + 3])
    second = expression_at(text, at + 3, deep - 1)
    if word is None or second is None or word == "times" and not is_integer(one):
        return None
    other, at = second
    return ((word, one, other), at + 1) if text.startswith(")", at) else None


def read_expression(text):
    """Return the expression that a text writes."""
    found = expression_at(text, 0, MOST_DEEP)
    return found[0] if found is not None and found[1] == len(text) else None


def whole(parts):
    """Return a list as a tuple, or None if one of its items is None."""
    return None if any([part is None for part in parts]) else tuple(parts)


def read_test(text, nots):
    """Return the test, with at most so many "not", that a text writes."""
    if text.startswith("not "):
        return whole(["not", read_test(text[4:], nots - 1)]) if nots > 0 else None
    if text.startswith("rest "):
        rest, of, behind = text[5:].partition(" of ")
        by, space, expression = behind.partition(" ")
        numbers = [read_integer(word, MOST_DIGITS) for word in (by, rest)]
        return whole(["rest", read_expression(expression), *numbers])
    one, sign, other = text.partition(" < ")
    return whole(["less", read_expression(one), read_expression(other)])


def read_plain(line):
    """Return the set, pay or stop statement that a line writes."""
    word, space, behind = line.partition(" ")
    if word == "set":
        name, space, expression = behind.partition(" ")
        return whole(["set", name if is_name(name) else None, read_expression(expression)])
    if word == "pay":
        return whole(["pay", read_expression(behind)])
    return ("stop",) if line == "stop" else None


def read_head(line):
    """Return what stands ahead of the blocks in the statement with blocks that a line begins."""
    word, space, behind = line.partition(" ")
    if word == "if":
        return whole(["if", read_test(behind, MOST_NOTS)])
    if word == "repeat":
        return whole(["repeat", read_integer(behind, MOST_DIGITS)])
    return (line,) if line in HANDS else None


class OpenBlock:
    """A block that is being read, and what stands ahead of it in its statement.

    head and ended are the head and the blocks ahead in that statement; passed
    tells that the line of an empty block was read.
    """

    def __init__(self, head):
        self.head = head
        self.ended = []
        self.block = []
        self.passed = False


def is_read(held):
    """Return whether an open block has all its lines, or may have."""
    return len(held.block) > 0 or held.passed


def closed_to(stack, depth):
    """Close all open blocks that lie deeper, with their statements; return whether that was possible."""
    while len(stack) > depth + 1:
        held = stack.pop()
        if not is_read(held) or held.head[0] in HANDS and not held.ended:
            return False
        blocks = [*held.ended, tuple(held.block)]
        if held.head[0] == "if" and len(blocks) == 1:
            blocks.append(())
        stack[-1].block.append((*held.head, *blocks))
    return True


def turned_over(stack, depth, word):
    """Go on to the second block of a statement in the block at this depth; return whether that was possible."""
    if len(stack) < depth + 2 or not closed_to(stack, depth + 1):
        return False
    held = stack[-1]
    if held.ended or not is_read(held) or SECONDS.get(held.head[0]) != word:
        return False
    held.ended.append(tuple(held.block))
    held.block = []
    held.passed = False
    return True


def passed_over(held):
    """Take the line of an empty block; return whether it may stand there."""
    if held.head is None or is_read(held) or held.head[0] == "if" and held.ended:
        return False
    held.passed = True
    return True


def taken(stack, line):
    """Take the next line behind those that were read; return whether it may stand there."""
    content = line.lstrip(" ")
    depth, left = divmod(len(line) - len(content), len(INDENT))
    if left > 0 or depth >= len(stack):
        return False
    if content in ("else", "or"):
        return turned_over(stack, depth, content)
    if not closed_to(stack, depth):
        return False
    held = stack[-1]
    if content == "pass":
        return passed_over(held)
    statement = read_plain(content)
    head = read_head(content)
    if held.passed or statement is None and head is None:
        return False
    if statement is None:
        stack.append(OpenBlock(head))
    else:
        held.block.append(statement)
    return True


def parse_program(value):
    """Return the program whose text value is."""
    if not isinstance(value, str):
        raise BadText(None)
    lines = value.split("\n")
    if lines[0] != "program":
        raise BadText(0)
    stack = [OpenBlock(None)]
    for index, line in enumerate(lines):
        if index > 0 and not taken(stack, line):
            raise BadText(index)
    if not closed_to(stack, 0):
        raise BadText(len(lines))
    program = tuple(stack[0].block)
    error = program_error(program)
    if error is not None:
        raise BadProgram(error)
    return program
