"""The first shortening: rows and guards whose outcome is known ahead of the round."""

from tracefold.plain import outcome
from tracefold.traces import is_passed

WORKS = ("add", "minus", "times", "less")

# The number with which a work leaves its other source as it is.
CHANGING_NOTHING = {"add": 0, "minus": 0, "times": 1}


class Kept:
    """What is known of the names, by the rows so far that stay."""

    def __init__(self):
        # By name: the number that it holds, whether it is known not to be 0,
        # and the other name that holds the same.
        self.numbers = {}
        self.not_nought = {}
        self.others = {}

    def worth(self, source):
        """What a source gives way to: a number, another name, or itself."""
        # One look is enough: of the name that another one gives way to, no other one is kept.
        other = self.others.get(source, source)
        return self.numbers.get(other, other)

    def is_sure(self, source, nought):
        """Whether a guard, whose source gave way, is sure to be passed."""
        if isinstance(source, int):
            return is_passed(source, nought)
        return source in self.not_nought and not nought

    def forget(self, name):
        """Drop what is kept of a name that is put anew, and of those that hold what it holds."""
        self.numbers.pop(name, None)
        self.not_nought.pop(name, None)
        self.others = {one: other for one, other in self.others.items() if name not in (one, other)}

    def learn_of_guard(self, source, nought):
        """Keep what a guard that was passed tells of its source."""
        if isinstance(source, int):
            return
        if nought:
            self.numbers[source] = 0
        else:
            self.not_nought[source] = True

    def learn(self, row):
        """Keep what a row that stays tells."""
        if row[0] == "tell":
            return
        if row[0] == "guard":
            self.learn_of_guard(row[1], row[2])
            return
        self.forget(row[1])
        if row[0] == "put":
            self.numbers[row[1]] = row[2]
        elif row[0] == "copy":
            self.others[row[1]] = row[2]


def given_way(row, kept):
    """The row, with what its sources give way to; repairs stay as they are."""
    if row[0] in ("tell", "guard"):
        return (row[0], kept.worth(row[1])) + row[2:]
    # A number, that of a put too, gives way to itself.
    return row[:2] + tuple([kept.worth(source) for source in row[2:]])


def is_nought_anyway(word, one, other):
    """Whether a work makes 0 of these sources, whatever names hold."""
    if word == "times":
        return 0 in (one, other)
    if word == "less":
        return other == 0 or one == other
    return word == "minus" and one == other


def sure_source(word, one, other):
    """The number or the name that a work comes to be; None where it stays a work."""
    if isinstance(one, int) and isinstance(other, int):
        return outcome(word, one, other)
    if is_nought_anyway(word, one, other):
        return 0
    if other == CHANGING_NOTHING.get(word):
        return one
    # From behind, a minus changes something: it takes away from 0.
    if word != "minus" and one == CHANGING_NOTHING.get(word):
        return other
    return None


def simpler(row):
    """The put or the copy that a work or a copy comes to be; else the row as it is."""
    source = None
    if row[0] == "copy":
        source = row[2]
    elif row[0] in WORKS:
        source = sure_source(row[0], row[2], row[3])
    if source is None:
        return row
    word = "put" if isinstance(source, int) else "copy"
    return word, row[1], source


def is_idle(row, kept):
    """Whether a row, as simple as it is, does nothing that is not known already."""
    if row[0] == "guard":
        return kept.is_sure(row[1], row[2])
    if row[0] in ("put", "copy"):
        return kept.worth(row[1]) == row[2]
    return False


def known(trace):
    """The trace with all that is known ahead of a round worked out."""
    start, rows, steps = trace
    kept = Kept()
    staying = []
    for row in rows:
        plainer = simpler(given_way(row, kept))
        if not is_idle(plainer, kept):
            staying.append(plainer)
            kept.learn(plainer)
    return start, staying, steps
