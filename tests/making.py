"""What several tests share: a fixed row of numbers, and rounds of traces held side by side."""

import copy
import itertools

from tracefold.traces import round_of

FEW_NUMBERS = (0, 1, 2, 999999)


class Numbers:
    """A fixed row of numbers, the same in each run of the tests."""

    def __init__(self, at):
        self.at = at

    def below(self, many):
        self.at = (self.at * 1103515245 + 12345) % 2 ** 31
        return (self.at >> 8) % many

    def one_of(self, choices):
        return choices[self.below(len(choices))]


def sources(row):
    """All sources of a row of a trace, those of its repairs too."""
    if row[0] == "put":
        return []
    if row[0] == "tell":
        return [row[1]]
    if row[0] == "guard":
        return [row[1]] + [source for _, source in row[5]]
    return list(row[2:])


def put_by(row):
    """The name that a row puts, or None; repairs are not counted."""
    return None if row[0] in ("tell", "guard") else row[1]


def names_of_trace(trace):
    """All names of a trace, sorted."""
    names = set()
    for row in trace[1]:
        names.update(part for part in sources(row) if isinstance(part, str))
        if row[0] == "guard":
            names.update(name for name, _ in row[5])
        elif row[0] != "tell":
            names.add(row[1])
    return sorted(names)


def all_values(names, numbers=FEW_NUMBERS):
    """A dict for each way in which names may hold some of the numbers."""
    for held in itertools.product(numbers, repeat=len(names)):
        yield dict(zip(names, held))


def check_same_rounds(test, trace, shorter, all_names):
    """A round of both is whole or left as one, at each of the values of the names."""
    for names in all_names:
        given = dict(names)
        test.assertEqual(round_of(shorter, names), round_of(trace, names), (trace, shorter, given))
        test.assertEqual(names, given)


def check_form(test, trace):
    """A trace is of the form that point 6 tells."""
    test.assertEqual([type(part) for part in trace], [int, list, int])
    for row in trace[1]:
        test.assertIs(type(row), tuple)
        if row[0] == "guard":
            test.assertEqual(len(row), 6)
            test.assertEqual([type(part) for part in row[2:]], [bool, int, int, tuple])
            names = [name for name, _ in row[5]]
            test.assertEqual(len(set(names)), len(names))


def check_shortening(test, shorten, trace, answer):
    """A shortening gives this answer, which is the asker's own, and changes nothing."""
    before = copy.deepcopy(trace)
    found = shorten(trace)
    test.assertEqual(found, answer)
    check_form(test, found)
    test.assertIsNot(found[1], trace[1])
    found[1].reverse()
    found[1].append(("tell", 77))
    test.assertEqual(shorten(trace), answer)
    test.assertEqual(trace, before)
