"""The plain run: what each row does, step by step."""

from tracefold.rows import NUMBERS, checked, names_in


def outcome(word, one, other):
    """What an add, a minus, a times or a less makes of two numbers."""
    if word == "add":
        return (one + other) % NUMBERS
    if word == "minus":
        return (one - other) % NUMBERS
    if word == "times":
        return one * other % NUMBERS
    return 1 if one < other else 0


def held(source, names):
    """What a source is: what a name holds, or, as in a trace, a number as it stands."""
    return source if isinstance(source, int) else names[source]


def number_for(row, names):
    """The number that a row lets its name hold."""
    if row[0] == "put":
        return row[2]
    if row[0] == "copy":
        return held(row[2], names)
    return outcome(row[0], held(row[2], names), held(row[3], names))


def do_step(row, place, names, told):
    """Do a row that is no stop, changing names and told; the next place."""
    if row[0] == "jump":
        return row[1]
    if row[0] == "zero":
        return row[2] if names[row[1]] == 0 else place + 1
    if row[0] == "tell":
        told.append(names[row[1]])
    else:
        names[row[1]] = number_for(row, names)
    return place + 1


def is_over(rows, place):
    """Whether a run is over at this place: at a stop, or behind the last row."""
    return place >= len(rows) or rows[place][0] == "stop"


def stepped(rows, place, names):
    """The next place, the names then, and what the step at this place tells.

    Where the run is over there is no step: the place stays, nothing is told.
    """
    names_then = dict(names)
    told = []
    if is_over(rows, place):
        return place, names_then, told
    next_place = do_step(rows[place], place, names_then, told)
    return next_place, names_then, told


def plain(rows, most):
    """Run a program from place 0 for at most so many steps."""
    checked(rows)
    names = {name: 0 for name in names_in(rows)}
    told = []
    place = 0
    steps = 0
    while steps < most and not is_over(rows, place):
        place = do_step(rows[place], place, names, told)
        steps += 1
    return told, place, names, steps
