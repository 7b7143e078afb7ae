"""Points 6 and 7: a round of a trace."""

import copy
import unittest

from tracefold.traces import round_of

EDGES = (0, 1, 2, 999, 1000, 500000, 999998, 999999)


class Rounds(unittest.TestCase):
    def goes(self, rows, names, answer, start=3, steps=20):
        trace = (start, rows, steps)
        trace_before, names_before = copy.deepcopy(trace), dict(names)
        found = round_of(trace, names)
        self.assertEqual(found, answer)
        self.assertIs(type(found), tuple)
        self.assertEqual([type(part) for part in found], [bool, int, dict, list, int])
        self.assertIsNot(found[2], names)
        for number in list(found[2].values()) + found[3]:
            self.assertIs(type(number), int)
        self.assertEqual(trace, trace_before)
        self.assertEqual(names, names_before)

    def whole(self, rows, names, names_then, told):
        self.goes(rows, names, (True, 3, names_then, told, 20))


class WholeRounds(Rounds):
    def test_an_empty_trace(self):
        self.goes([], {}, (True, 0, {}, [], 1), start=0, steps=1)
        self.goes([], {"a": 4}, (True, 7, {"a": 4}, [], 2), start=7, steps=2)

    def test_a_put(self):
        for number in EDGES:
            self.whole([("put", "a", number)], {"a": 8}, {"a": number}, [])

    def test_a_copy(self):
        self.whole([("copy", "a", "b")], {"a": 8, "b": 9}, {"a": 9, "b": 9}, [])
        self.whole([("copy", "a", "a")], {"a": 8}, {"a": 8}, [])

    def test_a_copy_of_a_number(self):
        for number in EDGES:
            self.whole([("copy", "a", number)], {"a": 8}, {"a": number}, [])

    def test_works_of_names_and_of_numbers(self):
        for one in EDGES:
            for other in EDGES:
                outcomes = {
                    "add": (one + other) % 1000000, "minus": (one - other) % 1000000,
                    "times": one * other % 1000000, "less": int(one < other),
                }
                names = {"a": one, "b": other, "c": 5}
                for word, outcome in outcomes.items():
                    for first in ("a", one):
                        for second in ("b", other):
                            self.whole([(word, "c", first, second)], names, {**names, "c": outcome}, [])

    def test_a_work_that_puts_its_own_source(self):
        self.whole([("add", "a", "a", "b")], {"a": 8, "b": 9}, {"a": 17, "b": 9}, [])
        self.whole([("minus", "a", 3, "a")], {"a": 8}, {"a": 999995}, [])
        self.whole([("times", "a", "a", "a")], {"a": 8}, {"a": 64}, [])
        self.whole([("less", "a", "a", 9)], {"a": 8}, {"a": 1}, [])

    def test_a_tell(self):
        for number in EDGES:
            self.whole([("tell", "a")], {"a": number, "b": 6}, {"a": number, "b": 6}, [number])
            self.whole([("tell", number)], {"a": 8}, {"a": 8}, [number])

    def test_rows_go_in_their_order(self):
        rows = [
            ("tell", "a"), ("put", "a", 5), ("tell", "a"), ("copy", "b", "a"), ("add", "a", "a", "b"),
            ("tell", "a"), ("tell", "b"), ("tell", 3),
        ]
        self.whole(rows, {"a": 1, "b": 2}, {"a": 10, "b": 5}, [1, 5, 10, 5, 3])

    def test_names_beyond_the_traces(self):
        self.whole([("put", "a", 5), ("tell", "a")], {"a": 1, "more": 2, "zz": 0}, {"a": 5, "more": 2, "zz": 0}, [5])
        self.goes([("guard", "a", True, 9, 4, (("b", 3),))], {"a": 1, "b": 7, "more": 2},
                  (False, 9, {"a": 1, "b": 3, "more": 2}, [], 4))

    def test_words_of_rows_may_be_names(self):
        rows = [("tell", "guard"), ("put", "tell", 3), ("guard", "guard", False, 1, 1, ()), ("tell", "tell")]
        self.whole(rows, {"guard": 4, "tell": 0}, {"guard": 4, "tell": 3}, [4, 3])


class Guards(Rounds):
    def test_guards_that_are_passed(self):
        self.whole([("guard", "a", True, 9, 4, (("a", 6),)), ("tell", "a")], {"a": 0}, {"a": 0}, [0])
        for number in (1, 2, 10, 999999):
            rows = [("guard", "a", False, 9, 4, (("a", 6),)), ("tell", "a")]
            self.whole(rows, {"a": number}, {"a": number}, [number])

    def test_guards_that_fail(self):
        for number in (1, 2, 10, 999999):
            self.goes([("guard", "a", True, 9, 4, ()), ("tell", "a")], {"a": number}, (False, 9, {"a": number}, [], 4))
        self.goes([("guard", "a", False, 9, 4, ()), ("tell", "a")], {"a": 0}, (False, 9, {"a": 0}, [], 4))

    def test_guards_of_a_number(self):
        self.whole([("guard", 0, True, 9, 4, ()), ("tell", 1)], {}, {}, [1])
        self.goes([("guard", 0, False, 9, 4, ()), ("tell", 1)], {}, (False, 9, {}, [], 4))
        for number in (1, 2, 999999):
            self.whole([("guard", number, False, 9, 4, ()), ("tell", 1)], {}, {}, [1])
            self.goes([("guard", number, True, 9, 4, ()), ("tell", 1)], {}, (False, 9, {}, [], 4))

    def test_a_guard_sees_what_rows_ahead_of_it_put(self):
        rows = [("minus", "a", "a", "b"), ("guard", "a", False, 9, 4, ()), ("tell", "a")]
        self.goes(rows, {"a": 5, "b": 5}, (False, 9, {"a": 0, "b": 5}, [], 4))
        self.whole(rows, {"a": 6, "b": 5}, {"a": 1, "b": 5}, [1])

    def test_what_is_ahead_of_a_failing_guard_is_done_and_told(self):
        rows = [("tell", "a"), ("put", "a", 7), ("guard", "b", True, 0, 6, ()), ("tell", "a"), ("put", "a", 8)]
        self.goes(rows, {"a": 1, "b": 2}, (False, 0, {"a": 7, "b": 2}, [1], 6))
        self.goes(rows, {"a": 1, "b": 0}, (True, 3, {"a": 8, "b": 0}, [1, 7], 20))

    def test_the_first_guard_that_fails_counts(self):
        rows = [("guard", "a", True, 4, 1, ()), ("guard", "b", True, 5, 2, ()), ("guard", "c", True, 6, 3, ())]
        self.goes(rows, {"a": 1, "b": 1, "c": 1}, (False, 4, {"a": 1, "b": 1, "c": 1}, [], 1))
        self.goes(rows, {"a": 0, "b": 1, "c": 1}, (False, 5, {"a": 0, "b": 1, "c": 1}, [], 2))
        self.goes(rows, {"a": 0, "b": 0, "c": 1}, (False, 6, {"a": 0, "b": 0, "c": 1}, [], 3))
        self.whole(rows, {"a": 0, "b": 0, "c": 0}, {"a": 0, "b": 0, "c": 0}, [])

    def test_a_guard_may_leave_at_the_start(self):
        self.goes([("guard", "a", True, 3, 20, ())], {"a": 1}, (False, 3, {"a": 1}, [], 20))


class Repairs(Rounds):
    def left(self, repairs, names, names_then):
        """A guard with repairs, that fails; and one that is passed, which repairs nothing."""
        self.goes([("guard", 0, False, 9, 4, repairs)], names, (False, 9, names_then, [], 4))
        self.whole([("guard", 0, True, 9, 4, repairs)], names, names, [])

    def test_one_repair(self):
        self.left((("a", 7),), {"a": 1, "b": 2}, {"a": 7, "b": 2})
        self.left((("a", "b"),), {"a": 1, "b": 2}, {"a": 2, "b": 2})
        self.left((("a", "a"),), {"a": 1, "b": 2}, {"a": 1, "b": 2})
        self.left((("a", 0),), {"a": 1, "b": 2}, {"a": 0, "b": 2})

    def test_two_repairs(self):
        self.left((("a", 7), ("b", 8)), {"a": 1, "b": 2, "c": 3}, {"a": 7, "b": 8, "c": 3})
        self.left((("a", "c"), ("b", "c")), {"a": 1, "b": 2, "c": 3}, {"a": 3, "b": 3, "c": 3})

    def test_repairs_that_swap_two_names(self):
        self.left((("a", "b"), ("b", "a")), {"a": 1, "b": 2}, {"a": 2, "b": 1})

    def test_repairs_read_the_names_as_they_were(self):
        self.left((("a", 7), ("b", "a")), {"a": 1, "b": 2}, {"a": 7, "b": 1})
        self.left((("b", "a"), ("a", 7)), {"a": 1, "b": 2}, {"a": 7, "b": 1})
        self.left((("a", "b"), ("b", "c"), ("c", "a")), {"a": 1, "b": 2, "c": 3}, {"a": 2, "b": 3, "c": 1})

    def test_a_repair_of_the_guards_own_source(self):
        self.goes([("guard", "a", True, 9, 4, (("a", "b"),))], {"a": 1, "b": 0}, (False, 9, {"a": 0, "b": 0}, [], 4))

    def test_repairs_read_what_rows_ahead_put(self):
        rows = [("put", "a", 5), ("guard", "c", True, 9, 4, (("b", "a"),)), ("put", "a", 6)]
        self.goes(rows, {"a": 1, "b": 2, "c": 3}, (False, 9, {"a": 5, "b": 5, "c": 3}, [], 4))


class OwnAnswers(unittest.TestCase):
    def test_changing_an_answer_changes_no_later_one(self):
        trace = (3, [("tell", "a"), ("guard", "b", True, 9, 4, (("a", 7),)), ("put", "a", 6)], 20)
        for names in ({"a": 1, "b": 0}, {"a": 1, "b": 1}):
            first = round_of(trace, names)
            kept = copy.deepcopy(first)
            first[2].clear()
            first[2]["a"] = 88
            first[3].append(99)
            self.assertEqual(round_of(trace, names), kept)
            self.assertEqual(names["a"], 1)


if __name__ == "__main__":
    unittest.main()
