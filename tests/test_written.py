"""Points 6 and 8: a trace that is written from a place."""

import copy
import unittest

from tracefold.plain import stepped
from tracefold.traces import round_of, written

# A loop with each kind of row on its way; its zero at 7 goes, its zero at 9 doesn't.
EACH = [
    ("put", "a", 5),            # 0
    ("copy", "b", "a"),         # 1
    ("add", "c", "a", "b"),     # 2
    ("minus", "d", "a", "b"),   # 3
    ("times", "e", "a", "c"),   # 4
    ("less", "f", "a", "c"),    # 5
    ("tell", "e"),              # 6
    ("zero", "d", 9),           # 7
    ("tell", "d"),              # 8
    ("zero", "f", 12),          # 9
    ("jump", 11),               # 10
    ("jump", 0),                # 11
    ("stop",),                  # 12
]
NOUGHTS = {name: 0 for name in "abcdef"}

EACH_TRACE = (0, [
    ("put", "a", 5), ("copy", "b", "a"), ("add", "c", "a", "b"), ("minus", "d", "a", "b"),
    ("times", "e", "a", "c"), ("less", "f", "a", "c"), ("tell", "e"),
    ("guard", "d", True, 8, 8, ()), ("guard", "f", False, 12, 9, ()),
], 11)

# Counts n down; 1 is hot.
DOWN = [
    ("put", "one", 1), ("zero", "n", 5), ("tell", "n"), ("minus", "n", "n", "one"), ("jump", 1), ("stop",),
]
DOWN_TRACE = (1, [("guard", "n", False, 5, 1, ()), ("tell", "n"), ("minus", "n", "n", "one")], 4)


class Written(unittest.TestCase):
    def writes(self, rows, start, names, most, answer):
        rows_before, names_before = copy.deepcopy(rows), dict(names)
        found = written(rows, start, names, most)
        self.assertEqual(found, answer)
        self.assertEqual(rows, rows_before)
        self.assertEqual(names, names_before)
        if answer is not None:
            self.assertEqual([type(part) for part in found], [int, list, int])
            self.assertIs(type(found), tuple)
            for row in found[1]:
                self.assertIs(type(row), tuple)
                if row[0] == "guard":
                    self.assertEqual([type(part) for part in row], [str, str, bool, int, int, tuple])

    def test_every_kind_of_row(self):
        self.writes(EACH, 0, NOUGHTS, 60, EACH_TRACE)

    def test_the_values_at_the_start_do_not_count_where_they_are_put_anew(self):
        self.writes(EACH, 0, {name: 9 for name in "abcdef"}, 60, EACH_TRACE)

    def test_a_start_in_the_midst_of_a_loop(self):
        rows = EACH_TRACE[1]
        names = {"a": 5, "b": 5, "c": 10, "d": 0, "e": 50, "f": 1}
        # Behind the zero at 7 the steps are counted from 3, not from 0.
        answer = (3, rows[3:7] + [("guard", "d", True, 8, 5, ()), ("guard", "f", False, 12, 6, ())] + rows[:3], 11)
        self.writes(EACH, 3, names, 60, answer)
        answer = (9, [("guard", "f", False, 12, 1, ())] + rows[:7] + [("guard", "d", True, 8, 11, ())], 11)
        self.writes(EACH, 9, names, 60, answer)

    def test_a_start_at_a_jump(self):
        names = {"n": 4, "one": 1}
        self.writes(DOWN, 4, names, 60, (4, [("guard", "n", False, 5, 2, ())] + DOWN_TRACE[1][1:], 4))

    def test_a_zero_goes_by_what_its_name_holds_then(self):
        rows = [("zero", "a", 2), ("jump", 0), ("add", "a", "a", "b"), ("jump", 0)]
        self.writes(rows, 0, {"a": 0, "b": 1}, 60,
                    (0, [("guard", "a", True, 1, 1, ()), ("add", "a", "a", "b")], 3))
        self.writes(rows, 0, {"a": 7, "b": 1}, 60, (0, [("guard", "a", False, 2, 1, ())], 2))
        # The name holds 0 at the start, but not at the zero.
        self.writes(rows, 2, {"a": 0, "b": 1}, 60, None)
        self.writes(rows, 2, {"a": 0, "b": 0}, 60,
                    (2, [("add", "a", "a", "b"), ("guard", "a", True, 1, 3, ())], 3))
        self.writes(rows, 2, {"a": 999999, "b": 1}, 60,
                    (2, [("add", "a", "a", "b"), ("guard", "a", True, 1, 3, ())], 3))

    def test_where_a_guard_would_have_gone(self):
        # A zero as the last row, that goes: else the way would be behind the last row.
        rows = [("tell", "a"), ("zero", "a", 0)]
        self.writes(rows, 0, {"a": 0}, 60, (0, [("tell", "a"), ("guard", "a", True, 2, 2, ())], 2))
        self.writes(rows, 0, {"a": 1}, 60, None)
        # A zero whose place is the next row is a guard, too.
        rows = [("zero", "a", 1), ("jump", 0)]
        for number, nought in ((0, True), (3, False)):
            self.writes(rows, 0, {"a": number}, 60, (0, [("guard", "a", nought, 1, 1, ())], 2))

    def test_the_way_is_over_at_a_stop(self):
        self.writes(DOWN, 1, {"n": 0, "one": 1}, 60, None)
        self.writes(DOWN, 5, {"n": 4, "one": 1}, 60, None)
        self.writes(DOWN, 0, {"n": 1, "one": 0}, 60, None)

    def test_the_way_is_over_behind_the_last_row(self):
        rows = [("tell", "a"), ("zero", "a", 0), ("tell", "a")]
        self.writes(rows, 0, {"a": 1}, 60, None)
        self.writes(rows, 2, {"a": 0}, 60, None)
        self.writes(rows, 3, {"a": 0}, 60, None)
        self.writes([], 0, {}, 60, None)

    def test_the_way_never_comes_back(self):
        self.writes(DOWN, 0, {"n": 0, "one": 0}, 60, None)
        self.writes([("jump", 1), ("jump", 1)], 0, {}, 1000, None)

    def test_as_many_steps_as_are_told_and_one_more(self):
        names = {"n": 4, "one": 1}
        for most in (4, 5, 60, 1000):
            self.writes(DOWN, 1, names, most, DOWN_TRACE)
        for most in (0, 1, 2, 3):
            self.writes(DOWN, 1, names, most, None)
        for most in (11, 12):
            self.writes(EACH, 0, NOUGHTS, most, EACH_TRACE)
        for most in (0, 1, 8, 10):
            self.writes(EACH, 0, NOUGHTS, most, None)

    def test_a_long_way(self):
        rows = [("tell", "a")] * 98 + [("jump", 0)]
        self.writes(rows, 0, {"a": 0}, 99, (0, rows[:98], 99))
        self.writes(rows, 0, {"a": 0}, 98, None)

    def test_jumps_are_left_out(self):
        self.writes([("jump", 1), ("jump", 0)], 0, {}, 60, (0, [], 2))
        self.writes([("jump", 1), ("jump", 0)], 1, {}, 60, (1, [], 2))

    def test_a_jump_to_its_own_row(self):
        self.writes([("stop",), ("jump", 1)], 1, {}, 60, (1, [], 1))
        self.writes([("stop",), ("jump", 1)], 1, {}, 1, (1, [], 1))
        self.writes([("stop",), ("jump", 1)], 1, {}, 0, None)

    def test_a_zero_to_its_own_row(self):
        rows = [("tell", "a"), ("zero", "a", 1)]
        self.writes(rows, 1, {"a": 0}, 60, (1, [("guard", "a", True, 2, 1, ())], 1))
        self.writes(rows, 1, {"a": 2}, 60, None)

    def test_0_steps(self):
        self.writes(DOWN, 1, {"n": 4, "one": 1}, 0, None)
        self.writes([("stop",)], 0, {}, 0, None)

    def test_it_comes_to_the_start_before_the_end_of_a_row_of_rounds(self):
        # Only the first time that it comes back counts.
        self.writes(DOWN, 1, {"n": 2, "one": 1}, 8, DOWN_TRACE)

    def test_names_beyond_the_programs(self):
        self.writes(DOWN, 1, {"n": 4, "one": 1, "more": 3}, 60, DOWN_TRACE)

    def test_words_of_rows_may_be_names(self):
        rows = [("zero", "guard", 0), ("tell", "zero"), ("jump", 0)]
        self.writes(rows, 0, {"guard": 1, "zero": 0}, 60,
                    (0, [("guard", "guard", False, 0, 1, ()), ("tell", "zero")], 3))

    def test_the_first_round_of_what_is_written_is_whole(self):
        for rows, start, names in ((EACH, 0, NOUGHTS), (DOWN, 1, {"n": 4, "one": 1}), (DOWN, 4, {"n": 4, "one": 1})):
            trace = written(rows, start, names, 60)
            place, names_then, told = start, dict(names), []
            for _ in range(trace[2]):
                place, names_then, more = stepped(rows, place, names_then)
                told = told + more
            self.assertEqual(round_of(trace, names), (True, place, names_then, told, trace[2]))


class OwnAnswers(unittest.TestCase):
    def test_changing_an_answer_changes_no_later_one(self):
        rows, names = list(EACH), dict(NOUGHTS)
        first = written(rows, 0, names, 60)
        first[1].clear()
        first[1].append(("tell", "a"))
        self.assertEqual(written(rows, 0, names, 60), EACH_TRACE)
        self.assertEqual(rows, EACH)


if __name__ == "__main__":
    unittest.main()
