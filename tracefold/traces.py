"""Traces: the way of a loop as one straight row of rows, and a round of it."""

from tracefold.plain import do_step, held, is_over, number_for


def guard_of(row, place, names, steps):
    """The guard that a zero comes to be, by the way that it goes."""
    nought = names[row[1]] == 0
    else_place = place + 1 if nought else row[2]
    return "guard", row[1], nought, else_place, steps, ()


def written(rows, start, names, most):
    """The trace from a place, by what the names hold there; None where there is none."""
    names_then = dict(names)
    told = []
    way = []
    place = start
    for steps in range(1, most + 1):
        if is_over(rows, place):
            return None
        row = rows[place]
        if row[0] == "zero":
            way.append(guard_of(row, place, names_then, steps))
        elif row[0] != "jump":
            way.append(row)
        place = do_step(row, place, names_then, told)
        if place == start:
            return start, way, steps
    return None


def is_passed(number, nought):
    """Whether a guard is passed where its source is this number."""
    return (number == 0) == nought


def repaired(repairs, names):
    """What the names hold behind the repairs, all of which read the names as they were."""
    numbers = {name: held(source, names) for name, source in repairs}
    return {**names, **numbers}


def round_of(trace, names):
    """Whether a round is whole, its place, the names then, what it tells, its steps."""
    start, rows, steps = trace
    names_then = dict(names)
    told = []
    for row in rows:
        if row[0] == "guard":
            _, source, nought, place, steps_done, repairs = row
            if not is_passed(held(source, names_then), nought):
                return False, place, repaired(repairs, names_then), told, steps_done
        elif row[0] == "tell":
            told.append(held(row[1], names_then))
        else:
            names_then[row[1]] = number_for(row, names_then)
    return True, start, names_then, told, steps
