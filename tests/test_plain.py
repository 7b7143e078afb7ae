"""Points 1 and 5: the plain run."""

import copy
import unittest

from tracefold.plain import plain, stepped

# Tells 3 times 4 by adding, an inner loop of 4 rounds in an outer one of 3.
LOOPS = [
    ("put", "one", 1),              # 0
    ("put", "outer", 3),            # 1
    ("zero", "outer", 11),          # 2
    ("put", "inner", 4),            # 3
    ("zero", "inner", 8),           # 4
    ("add", "sum", "sum", "one"),   # 5
    ("minus", "inner", "inner", "one"),     # 6
    ("jump", 4),                    # 7
    ("tell", "sum"),                # 8
    ("minus", "outer", "outer", "one"),     # 9
    ("jump", 2),                    # 10
    ("stop",),                      # 11
]

ENDLESS = [("put", "one", 1), ("add", "n", "n", "one"), ("tell", "n"), ("jump", 1)]


class PlainRuns(unittest.TestCase):
    def runs(self, rows, most, answer):
        before = copy.deepcopy(rows)
        found = plain(rows, most)
        self.assertEqual(found, answer)
        self.assertEqual(rows, before)
        self.assertEqual([type(part) for part in found], [list, int, dict, int])
        for number in found[0] + list(found[2].values()):
            self.assertIs(type(number), int)

    def test_an_empty_program(self):
        for most in (0, 1, 10):
            self.runs([], most, ([], 0, {}, 0))

    def test_a_stop_is_no_step(self):
        self.runs([("stop",)], 10, ([], 0, {}, 0))
        self.runs([("put", "a", 5), ("stop",), ("tell", "a")], 10, ([], 1, {"a": 5}, 1))
        self.runs([("put", "a", 5), ("stop",)], 1, ([], 1, {"a": 5}, 1))
        self.runs([("jump", 2), ("tell", "a"), ("stop",)], 10, ([], 2, {"a": 0}, 1))

    def test_running_off_behind_the_last_row(self):
        self.runs([("put", "a", 5), ("tell", "a")], 10, ([5], 2, {"a": 5}, 2))
        self.runs([("put", "a", 5), ("zero", "a", 0)], 10, ([], 2, {"a": 5}, 2))

    def test_0_steps(self):
        self.runs([("put", "a", 5), ("tell", "b")], 0, ([], 0, {"a": 0, "b": 0}, 0))

    def test_as_many_steps_as_are_told(self):
        rows = [("put", "a", 5), ("tell", "a"), ("tell", "a")]
        self.runs(rows, 1, ([], 1, {"a": 5}, 1))
        self.runs(rows, 2, ([5], 2, {"a": 5}, 2))
        self.runs(rows, 3, ([5, 5], 3, {"a": 5}, 3))
        self.runs(rows, 4, ([5, 5], 3, {"a": 5}, 3))

    def test_all_names_hold_0_at_the_start(self):
        rows = [("tell", "e"), ("jump", 3), ("add", "a", "b", "c"), ("tell", "a"), ("stop",), ("zero", "d", 0)]
        names = {"a": 0, "b": 0, "c": 0, "d": 0, "e": 0}
        self.runs(rows, 10, ([0, 0], 4, names, 3))

    def test_each_kind_of_row(self):
        rows = [
            ("put", "a", 999999), ("copy", "b", "a"), ("add", "c", "a", "b"), ("minus", "d", "z", "c"),
            ("times", "e", "a", "b"), ("less", "f", "d", "c"), ("zero", "z", 8), ("tell", "a"),
            ("tell", "c"), ("tell", "d"), ("tell", "e"), ("zero", "e", 0), ("tell", "f"), ("jump", 15),
            ("tell", "a"), ("stop",),
        ]
        names = {"a": 999999, "b": 999999, "c": 999998, "d": 2, "e": 1, "f": 1, "z": 0}
        self.runs(rows, 100, ([999998, 2, 1, 1], 15, names, 13))

    def test_words_of_rows_may_be_names(self):
        rows = [
            ("put", "stop", 3), ("copy", "jump", "stop"), ("tell", "stop"), ("add", "tell", "jump", "stop"),
            ("tell", "tell"), ("zero", "zero", 7), ("tell", "stop"), ("tell", "jump"),
        ]
        self.runs(rows, 10, ([3, 6, 3], 8, {"jump": 3, "stop": 3, "tell": 6, "zero": 0}, 7))

    def test_loops_in_loops(self):
        names = {"inner": 0, "one": 1, "outer": 0, "sum": 12}
        # 2 puts, 3 outer rounds of 6 steps and 4 inner rounds of 4, and a last zero.
        self.runs(LOOPS, 1000, ([4, 8, 12], 11, names, 2 + 3 * (6 + 4 * 4) + 1))

    def test_loops_in_loops_cut_short(self):
        self.runs(LOOPS, 24, ([4], 2, {"inner": 0, "one": 1, "outer": 2, "sum": 4}, 24))

    def test_an_endless_loop(self):
        self.runs(ENDLESS, 10, ([1, 2, 3], 1, {"n": 3, "one": 1}, 10))
        self.runs(ENDLESS, 9, ([1, 2, 3], 3, {"n": 3, "one": 1}, 9))
        self.runs([("jump", 0)], 1000, ([], 0, {}, 1000))
        self.runs([("zero", "a", 0)], 1000, ([], 0, {"a": 0}, 1000))

    def test_a_long_run(self):
        told, place, names, steps = plain(ENDLESS, 60001)
        self.assertEqual(told, list(range(1, 20001)))
        self.assertEqual((place, names, steps), (1, {"n": 20000, "one": 1}, 60001))

    def test_it_goes_as_step_after_step_does(self):
        place, names, told = 0, {"inner": 0, "one": 0, "outer": 0, "sum": 0}, []
        for most in range(70):
            self.runs(LOOPS, most, (told, place, names, most))
            if LOOPS[place] == ("stop",):
                break
            place, names, more = stepped(LOOPS, place, names)
            told = told + more
        self.assertEqual(place, 11)


class OwnAnswers(unittest.TestCase):
    def test_changing_an_answer_changes_no_later_one(self):
        for rows, most in ((LOOPS, 1000), (ENDLESS, 25), ([("tell", "a")], 0), ([], 3)):
            first = plain(rows, most)
            kept = copy.deepcopy(first)
            first[0].append(77)
            first[2].clear()
            first[2]["a"] = 88
            self.assertEqual(plain(rows, most), kept)


if __name__ == "__main__":
    unittest.main()
