"""Consoles: a bench that is worked on by lines of text."""

from weandthey.errors import BadProgram, Busy, IsGiven, Lost, NoGift, NoPlace, NotGiven, NothingToRedo
from weandthey.errors import NothingToUndo, NotTheirs, TooManyEdits
from weandthey.texts import program_text, read_integer, read_plain

MOST_DIGITS = 40
UNKNOWN = "unknown command"


class Console:
    """Works on a bench, a Bench or a WonBench."""

    def __init__(self, bench):
        self.bench = bench

    def execute(self, line):
        """Return the answer to a line."""
        if not isinstance(line, str):
            return UNKNOWN
        # The name of an error's class cannot be asked, so each one that a bench may raise here is named.
        try:
            return self.answer(line)
        except Busy:
            return "error Busy"
        except TooManyEdits:
            return "error TooManyEdits"
        except NoPlace:
            return "error NoPlace"
        except NotTheirs:
            return "error NotTheirs"
        except IsGiven:
            return "error IsGiven"
        except NotGiven:
            return "error NotGiven"
        except BadProgram:
            return "error BadProgram"
        except NoGift:
            return "error NoGift"
        except Lost:
            return "error Lost"
        except NothingToUndo:
            return "error NothingToUndo"
        except NothingToRedo:
            return "error NothingToRedo"

    def answer(self, line):
        """Return the answer to a line if the bench raises no error."""
        word, space, behind = line.partition(" ")
        if space == "":
            return self.answer_to_word(word)
        if word == "run":
            return self.answer_to_run(behind.split(" "))
        if word == "add":
            statement = read_plain(behind)
            return UNKNOWN if statement is None else f"ok {self.bench.add(statement)}"
        number = read_integer(behind, MOST_DIGITS)
        return UNKNOWN if number is None else self.answer_to_number(word, number)

    def answer_to_word(self, word):
        """Return the answer to a command of one word."""
        if word == "fewest":
            return f"ok {self.bench.give_fewest()}"
        if word == "undo":
            return f"ok {self.bench.undo()}"
        if word == "redo":
            return f"ok {self.bench.redo()}"
        if word == "text":
            return program_text(self.bench.program).replace("\n", " | ")
        if word == "given":
            return ", ".join([str(place) for place in self.bench.gift]) if self.bench.gift else "none"
        if word == "verdict":
            number = self.bench.verdict()
            return "won" if number is None else f"lost {number}"
        return UNKNOWN

    def answer_to_number(self, word, number):
        """Return the answer to a command of a word and a number."""
        if word == "drop":
            return f"ok {self.bench.drop(number)}"
        if word == "give":
            return f"ok {self.bench.give(number)}"
        if word == "take":
            return f"ok {self.bench.take(number)}"
        return str(self.bench.told(number)) if word == "worth" else UNKNOWN

    def answer_to_run(self, words):
        """Return the answer to the command run, by the words behind it."""
        number = read_integer(words[0], MOST_DIGITS)
        if number is None or not all([word in ("0", "1") for word in words[1:]]):
            return UNKNOWN
        total, turns, hands = self.bench.outcome(number, tuple([int(word) for word in words[1:]]))
        made = [f"{hand} {turn}" for hand, turn in zip(hands, turns)]
        return ", ".join([str(total), *made])
