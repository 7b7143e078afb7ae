"""Points 10, 11 and 15 over many traces and programs: small ones all, larger ones by a fixed row of numbers."""

import copy
import itertools
import unittest

from making import Numbers, all_values, check_form, check_same_rounds, names_of_trace, put_by, sources

from tracefold.folding import folded, shortened
from tracefold.known import known
from tracefold.needed import needed
from tracefold.plain import plain, stepped
from tracefold.traces import round_of, written

SHORTENINGS = (known, needed, shortened)

SMALL_ROWS = [
    ("put", "a", 0), ("put", "a", 1), ("put", "b", 2), ("copy", "a", "b"), ("copy", "b", "a"), ("copy", "a", 2),
    ("add", "a", "a", "b"), ("add", "b", "a", 0), ("minus", "a", "b", "a"), ("times", "b", 1, "a"),
    ("less", "a", "b", "a"), ("tell", "a"), ("tell", "b"),
    ("guard", "a", True, 1, 1, ()), ("guard", "a", False, 2, 2, ()), ("guard", "b", True, 3, 3, (("a", "b"),)),
    ("guard", "b", False, 4, 4, (("b", "a"), ("a", "b"))), ("guard", "a", True, 5, 5, (("b", 1),)),
]

TRACE_WORDS = ("put", "put", "copy", "copy", "add", "minus", "times", "less", "tell", "guard", "guard", "guard")

PROGRAM_WORDS = (
    "put", "copy", "add", "add", "minus", "times", "less", "less", "tell", "jump", "zero", "zero", "zero",
)


def made_row(numbers, at):
    """A row of a trace with 4 names; a guard has its own place and steps."""
    names = ["a", "b", "c", "d"]

    def source():
        return numbers.one_of(names + names + [0, 1, 999999])

    word = numbers.one_of(TRACE_WORDS)
    if word == "put":
        return word, numbers.one_of(names), numbers.one_of((0, 1, 2, 999999))
    if word == "tell":
        return word, source()
    if word == "guard":
        chosen = [name for name in names if numbers.below(6) == 0]
        repairs = tuple((name, source()) for name in chosen)
        return word, source(), numbers.below(2) == 0, 100 + at, at + 1, repairs
    if word == "copy":
        return word, numbers.one_of(names), source()
    return word, numbers.one_of(names), source(), source()


def made_traces(first, many, longest):
    numbers = Numbers(first)
    for _ in range(many):
        long = 1 + numbers.below(longest)
        yield (numbers.below(50), [made_row(numbers, at) for at in range(long)], long + 1)


def made_values(numbers, names, many):
    for _ in range(many):
        yield {name: numbers.one_of((0, 0, 1, 2, 3, 999998, 999999)) for name in names + ["more"]}


def small_traces():
    for many in range(4):
        for rows in itertools.product(SMALL_ROWS, repeat=many):
            yield (7, list(rows), 9)


def is_part_of(part, whole):
    """Whether the items stand in the whole in their order."""
    rest = iter(whole)
    return all(item in rest for item in part)


def bare(row):
    """A row without the repairs of a guard."""
    return row[:5] if row[0] == "guard" else row


class ManyTraces(unittest.TestCase):
    def check_rounds(self, trace, all_names):
        before = copy.deepcopy(trace)
        for shorten in SHORTENINGS:
            shorter = shorten(trace)
            check_form(self, shorter)
            self.assertEqual((shorter[0], shorter[2]), (trace[0], trace[2]))
            self.assertLessEqual(len(shorter[1]), len(trace[1]))
            check_same_rounds(self, trace, shorter, all_names)
        self.assertEqual(trace, before)
        self.assertEqual(shortened(trace), needed(known(trace)))

    def test_rounds_of_all_small_traces(self):
        values = list(all_values(["a", "b"], (0, 1, 3)))
        for trace in small_traces():
            self.check_rounds(trace, values)

    def test_rounds_of_made_traces(self):
        numbers = Numbers(5)
        whole = left = 0
        for trace in made_traces(1, 1500, 14):
            values = list(made_values(numbers, ["a", "b", "c", "d"], 12))
            self.check_rounds(trace, values)
            ends = [round_of(shortened(trace), names)[0] for names in values]
            whole += ends.count(True)
            left += ends.count(False)
        self.assertGreater(whole, 2000)
        self.assertGreater(left, 2000)

    def test_what_of_a_trace_stays_with_needed(self):
        for trace in itertools.chain(small_traces(), made_traces(2, 3000, 20)):
            rows, stay = trace[1], needed(trace)[1]
            self.assertTrue(is_part_of([bare(row) for row in stay], [bare(row) for row in rows]), trace)
            for word in ("guard", "tell"):
                self.assertEqual([bare(row) for row in stay if row[0] == word],
                                 [bare(row) for row in rows if row[0] == word])
            guards = [row for row in rows if row[0] == "guard"]
            guards_then = [row for row in stay if row[0] == "guard"]
            for guard, guard_then in zip(guards, guards_then):
                self.assertEqual(guard_then[5][:len(guard[5])], guard[5])

    def check_pairs(self, rows):
        """Of a row that puts a name and the next one that does, as point 10 tells of what is given."""
        for at, row in enumerate(rows):
            name = put_by(row)
            if name is None:
                continue
            guards = 0
            for later in rows[at + 1:]:
                if name in sources(later):
                    break
                if put_by(later) == name:
                    self.assertGreater(guards, 0, rows)
                    self.assertNotEqual(row[0], "put", rows)
                    break
                guards += later[0] == "guard"

    def test_what_of_a_trace_goes_with_needed(self):
        for trace in itertools.chain(small_traces(), made_traces(3, 3000, 20)):
            self.check_pairs(needed(trace)[1])
            self.check_pairs(shortened(trace)[1])

    def test_what_goes_with_needed_by_the_trace_itself(self):
        for trace in made_traces(4, 3000, 20):
            rows, stay = trace[1], needed(trace)[1]
            for at, row in enumerate(rows):
                if rows.count(row) == 1 and self.goes_surely(rows, at):
                    self.assertNotIn(row, stay, trace)

    def goes_surely(self, rows, at):
        """Whether a later row puts the name again unread, with no guard ahead or behind a put."""
        name = put_by(rows[at])
        if name is None:
            return False
        guards = 0
        for later in rows[at + 1:]:
            if name in sources(later):
                return False
            if put_by(later) == name:
                return guards == 0 or rows[at][0] == "put"
            guards += later[0] == "guard"
        return False

    def test_what_stays_with_known_tells_nothing_that_is_known(self):
        for trace in itertools.chain(small_traces(), made_traces(6, 3000, 20)):
            shorter = known(trace)
            # What stays goes by what stays: once more, nothing is left to do.
            self.assertEqual(known(shorter), shorter)
            tells = [row for row in trace[1] if row[0] == "tell"]
            self.assertEqual(len([row for row in shorter[1] if row[0] == "tell"]), len(tells))
            for row in shorter[1]:
                self.check_is_plain(row)

    def check_is_plain(self, row):
        """No row that would come to be a put or a copy, or would be left out, by itself."""
        if row[0] == "copy":
            self.assertIsInstance(row[2], str)
            self.assertNotEqual(row[1], row[2])
        if row[0] in ("add", "minus", "times", "less"):
            one, other = row[2:]
            self.assertTrue(isinstance(one, str) or isinstance(other, str), row)
            self.assertFalse(row[0] == "add" and 0 in (one, other), row)
            self.assertFalse(row[0] == "times" and (0 in (one, other) or 1 in (one, other)), row)
            self.assertFalse(row[0] in ("minus", "less") and (other == 0 or one == other), row)
        if row[0] == "guard" and isinstance(row[1], int):
            self.assertNotEqual(row[1] == 0, row[2])


def small_programs():
    """All programs of three rows of a few kinds, behind a row that puts b, ahead of a jump back."""
    kinds = [("put", "a", 0), ("put", "a", 1), ("copy", "c", "a"), ("minus", "a", "b", "a"), ("add", "a", "a", "b")]
    kinds += [("tell", "a"), ("stop",), ("jump", 4), ("jump", 2)]
    kinds += [("zero", "a", place) for place in (1, 3, 4, 5)] + [("zero", "c", 3)]
    for rows in itertools.product(kinds, repeat=3):
        yield [("put", "b", 1)] + list(rows) + [("jump", 1), ("stop",)]


def made_program(numbers, many):
    """A program whose last rows jump back, so that it goes on for long."""
    names = ["a", "b", "c", "d"]
    rows = [("put", "a", 1), ("put", "b", numbers.below(5))]
    while len(rows) < many:
        word = numbers.one_of(PROGRAM_WORDS)
        if word == "put":
            rows.append((word, numbers.one_of(names), numbers.below(4)))
        elif word == "copy":
            rows.append((word, numbers.one_of(names), numbers.one_of(names)))
        elif word == "tell":
            rows.append((word, numbers.one_of(names)))
        elif word == "jump":
            rows.append((word, numbers.below(many)))
        elif word == "zero":
            rows.append((word, numbers.one_of(names), numbers.below(many)))
        else:
            rows.append((word, numbers.one_of(names), numbers.one_of(names), numbers.one_of(names)))
    rows[-1] = ("jump", 2 + numbers.below(3))
    return rows


def phased_program(numbers):
    """A loop whose way turns with a counter at two numbers, and at its remainder by 2."""
    low, high = 1 + numbers.below(6), 8 + numbers.below(30)
    rows = [
        ("put", "one", 1), ("put", "low", low), ("put", "high", high),
        ("add", "n", "n", "one"),           # 3
        ("less", "f", "low", "n"),
        ("less", "g", "n", "high"),
        ("times", "f", "f", "g"),
        ("zero", "f", 12),                  # 7
        ("minus", "t", "one", "t"),
        ("zero", "t", 11),
        ("tell", "n"),
        ("jump", 3),                        # 11
        ("copy", "u", "n"),                 # 12
        ("put", "t", 0),
        ("tell", "u"),
        ("jump", 3),
    ]
    if numbers.below(2):
        rows[8] = ("put", "t", numbers.below(2))
    return rows


def logged_by_the_words(rows, hot, most):
    """Folding as points 12 to 14 tell it, by traces that are not shortened and plain single steps."""
    names = plain(rows, 0)[2]
    place, steps, told, log = 0, 0, [], []
    traces, against, counts = {}, {}, {}
    last = "plain"
    while steps < most and place < len(rows) and rows[place] != ("stop",):
        if place in traces and steps + traces[place][2] <= most:
            start = place
            whole, place, names, more, done = round_of(traces[start], names)
            told, steps = told + more, steps + done
            if not whole:
                log.append(("left", steps, place, dict(names)))
                if last != "whole":
                    against[start] += 1
                    if against[start] == 3:
                        del traces[start]
                        counts[start] = 0
                        log.append(("gone", steps, start))
            last = "whole" if whole else "left"
            continue
        at, goes = place, rows[place][0] == "jump" or rows[place][0] == "zero" and names[rows[place][1]] == 0
        place, names, more = stepped(rows, at, names)
        told, steps, last = told + more, steps + 1, "plain"
        if goes and rows[at][-1] <= at:
            counts[place] = counts.get(place, 0) + 1
            if counts[place] == hot and place not in traces:
                trace = written(rows, place, names, 60)
                if trace is None:
                    log.append(("lost", steps, place))
                else:
                    traces[place], against[place] = trace, 0
                    log.append(("written", steps, place, shortened(trace)))
    return told, place, names, steps, log


class ManyPrograms(unittest.TestCase):
    def check(self, rows, hot, most):
        before = copy.deepcopy(rows)
        answer = folded(rows, hot, most)
        self.assertEqual(answer[:4], plain(rows, most), (rows, hot, most))
        for event in answer[4]:
            if event[0] == "left":
                self.assertEqual(event[2:], plain(rows, event[1])[1:3], (rows, hot, most))
        self.assertEqual(rows, before)
        return answer

    def count_events(self, log, counts):
        for event in log:
            counts[event[0]] = counts.get(event[0], 0) + 1

    def test_all_small_programs(self):
        counts = {}
        for rows in small_programs():
            for hot, all_most in ((1, range(0, 15)), (2, (7, 16, 33)), (3, (26, 40))):
                for most in all_most:
                    self.count_events(self.check(rows, hot, most)[4], counts)
        for word in ("written", "left", "lost"):
            self.assertGreater(counts[word], 100, counts)

    def test_made_programs_at_each_number_of_steps(self):
        numbers = Numbers(11)
        programs = [made_program(numbers, 5 + at % 9) for at in range(60)] + [phased_program(numbers) for _ in range(4)]
        for rows in programs:
            for most in range(90):
                self.check(rows, 1, most)
            for most in range(3, 90, 4):
                self.check(rows, 3, most)

    def test_logs_by_the_words(self):
        numbers = Numbers(12)
        counts = {}
        programs = [made_program(numbers, 5 + at % 12) for at in range(400)]
        programs += [phased_program(numbers) for _ in range(60)]
        for rows in programs:
            for hot in (1, 2, 5):
                for most in (61, 400):
                    answer = self.check(rows, hot, most)
                    self.assertEqual(answer, logged_by_the_words(rows, hot, most))
                    self.count_events(answer[4], counts)
        for word in ("written", "left", "lost", "gone"):
            self.assertGreater(counts[word], 20, counts)

    def test_traces_that_were_written_go_as_they_were_written(self):
        numbers = Numbers(13)
        for at in range(200):
            rows = made_program(numbers, 5 + at % 12)
            for event in folded(rows, 2, 200)[4]:
                if event[0] == "written":
                    names = plain(rows, event[1])[2]
                    trace = written(rows, event[2], names, 60)
                    self.assertEqual(event[3], shortened(trace))
                    values = made_values(numbers, names_of_trace(trace), 8)
                    check_same_rounds(self, trace, event[3], values)


if __name__ == "__main__":
    unittest.main()
