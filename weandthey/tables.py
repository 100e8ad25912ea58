"""Tables: the worth of a program on all numbers.

A chart is all that a program can do, whatever the number: a tuple (word, told,
one, other) with two charts one and other, by which it goes on.
- ("end", form, None, None): a run ends; the form tells its total.
- ("we", None, one, other), ("they", None, one, other): a choice.
- ("less", form, one, other): a test; it goes on by one where the form tells at least 0.
- ("rest", (by, rests), one, other): a test; it goes on by one where n has one of the rests.

A part is a tuple (low, high, item): what is so of all integers of a stretch by 1.
"""

from weandthey.lines import Lines, cut, extremes, minus, plus, reaching, times, told_by
from weandthey.runs import HANDS
from weandthey.stretches import are_parted, common_multiple, has_any, is_row, later, parts_by, pieces_of
from weandthey.stretches import sooner


def form_of(expression, names):
    """Return the form that tells the value of an expression; names has the forms of the names."""
    if isinstance(expression, int):
        return (0, expression)
    if isinstance(expression, str):
        return names.get(expression, (0, 0))
    word, one, other = expression
    if word == "times":
        return times(one, form_of(other, names))
    if word == "plus":
        return plus(form_of(one, names), form_of(other, names))
    return minus(form_of(one, names), form_of(other, names))


def question_of(test, names):
    """Return the word of a test without "not" and what a chart tells of it."""
    form = form_of(test[1], names)
    if test[0] == "less":
        return ("less", plus(minus(form_of(test[2], names), form), (0, -1)))
    by = test[2]
    return ("rest", (by, tuple([rest for rest in range(by) if told_by(form, rest) % by == test[3]])))


def fork_of(statement, names):
    """Return (word, told, one, other) for a choice or a test, with the blocks one and other."""
    if statement[0] in HANDS:
        return (statement[0], None, statement[1], statement[2])
    test, one, other = statement[1:]
    while test[0] == "not":
        test, one, other = test[1], other, one
    word, told = question_of(test, names)
    return (word, told, one, other)


def sole_block(fork):
    """Return the block by which every run goes on at a fork, or None if not all go by the same."""
    word, told, one, other = fork
    if word == "less" and told[0] == 0:
        return one if told[1] >= 0 else other
    if word == "rest" and len(told[1]) in (0, told[0]):
        return one if told[1] else other
    return None


def chart_behind(names, total, ahead):
    """Return the chart of the block ahead, by the forms that names and total have so far."""
    names = dict(names)
    while ahead:
        statement, ahead = ahead[0], ahead[1:]
        if statement[0] == "set":
            names[statement[1]] = form_of(statement[2], names)
        elif statement[0] == "pay":
            total = plus(total, form_of(statement[1], names))
        elif statement[0] == "repeat":
            ahead = statement[2] * statement[1] + ahead
        elif statement[0] == "stop":
            ahead = ()
        else:
            fork = fork_of(statement, names)
            sole = sole_block(fork)
            if sole is None:
                charts = [chart_behind(names, total, block + ahead) for block in fork[2:]]
                return (fork[0], fork[1], *charts)
            ahead = sole + ahead
    return ("end", total, None, None)


def rests_in(chart):
    """Return the list of all (by, rests) of the tests in a chart."""
    word, told, one, other = chart
    if word == "end":
        return []
    found = rests_in(one) + rests_in(other)
    return [told, *found] if word == "rest" else found


def on_rest(chart, number):
    """Return the chart without its tests of rests: as they are answered on a number."""
    word, told, one, other = chart
    if word == "end":
        return chart
    if word == "rest":
        return on_rest(one if number % told[0] in told[1] else other, number)
    return (word, told, on_rest(one, number), on_rest(other, number))


def charts_of(program):
    """Return two lists: charts without tests of rests, and for each rest by the period the index of its chart."""
    chart = chart_behind({"n": (1, 0)}, (0, 0), program)
    asked = sorted(set(rests_in(chart)))
    charts, places, indexes = [], [], {}
    for rest in range(common_multiple([by for by, rests in asked])):
        answers = tuple([rest % by in rests for by, rests in asked])
        # Most rests are answered alike, and all that comes of a chart is worked out once.
        if answers not in indexes:
            indexes[answers] = len(charts)
            charts.append(on_rest(chart, rest))
        places.append(indexes[answers])
    return (charts, places)


def parts_in(chart, low, high, at_end, at_choice):
    """Return the list of parts that tell of a chart on a stretch, in order.

    at_end(form, low, high) returns the parts for the end of a run, and
    at_choice(hand, parts, parts) those for a choice by those behind both turns.
    """
    if not has_any(0, 1, low, high):
        return []
    word, told, one, other = chart
    if word == "end":
        return at_end(told, low, high)
    if word != "less":
        behind = [parts_in(way, low, high, at_end, at_choice) for way in (one, other)]
        return at_choice(word, behind[0], behind[1])
    true, false = cut(low, high, told)
    above = parts_in(one, true[0], true[1], at_end, at_choice)
    below = parts_in(other, false[0], false[1], at_end, at_choice)
    return below + above if told[0] > 0 else above + below


def columns_in(program, at_end, at_choice):
    """Return the columns of the parts that tell of a program: one for each rest by its period."""
    charts, places = charts_of(program)
    parts = [parts_in(chart, None, None, at_end, at_choice) for chart in charts]
    columns = []
    for rest, place in enumerate(places):
        columns.append([part for part in parts[place] if has_any(rest, len(places), part[0], part[1])])
    return columns


def total_at_end(form, low, high):
    """Return the only part at the end of a run: its total is its worth."""
    return [(low, high, form)]


def worth_at_choice(hand, one, other):
    """Return the parts with the worth at a choice, by those behind both turns."""
    return [row[2:] for row in extremes((one,), (other,), hand == "we")]


def worth_columns(program):
    """Return the columns that tell the worth of a program."""
    return columns_in(program, total_at_end, worth_at_choice)


def worth_of(program):
    """Return the Lines that tell the worth of the program on each number."""
    return Lines(tuple(pieces_of(worth_columns(program))))


def tells(row, columns):
    """Return whether a row tells what the columns tell, on each integer that it is about."""
    for rest, by in parts_by(row[0], row[1], len(columns)):
        for low, high, form in columns[rest % len(columns)]:
            low, high = later(low, row[2]), sooner(high, row[3])
            apart = minus(row[4], form)
            for least, greatest in (reaching(low, high, apart, 1), reaching(low, high, times(-1, apart), 1)):
                if has_any(rest, by, least, greatest):
                    return False
    return True


def worth_holds(program, value):
    """Return whether value is a tuple of parted rows that tell the worth of the program."""
    if not isinstance(value, tuple) or not all([is_row(row) for row in value]) or not are_parted(value):
        return False
    columns = worth_columns(program)
    return all([tells(row, columns) for row in value])
