"""Points 1 and 4: what each kind of row does, and which place comes next."""

import copy
import unittest

from tracefold.plain import stepped

EDGES = (0, 1, 2, 3, 7, 1000, 499999, 500000, 999998, 999999)

# One of each kind, for what holds of all of them.
EACH = [
    ("put", "a", 5), ("copy", "a", "b"), ("add", "a", "a", "b"), ("minus", "a", "b", "a"),
    ("times", "a", "b", "b"), ("less", "a", "b", "a"), ("tell", "b"), ("jump", 2), ("zero", "b", 1),
    ("zero", "none", 0), ("stop",),
]
HELD = {"a": 3, "b": 4, "none": 0}


class Steps(unittest.TestCase):
    def step(self, row, names, at=0, many=1):
        """Step a row that stands at a place among so many rows."""
        rows = [("tell", "far")] * many
        rows[at] = row
        rows_before, names_before = copy.deepcopy(rows), dict(names)
        answer = stepped(rows, at, names)
        self.assertEqual(rows, rows_before)
        self.assertEqual(names, names_before)
        self.assertIs(type(answer), tuple)
        self.assertEqual(len(answer), 3)
        place, names_then, told = answer
        self.assertIs(type(place), int)
        self.assertIs(type(names_then), dict)
        self.assertIsNot(names_then, names)
        self.assertIs(type(told), list)
        for number in list(names_then.values()) + told:
            self.assertIs(type(number), int)
        return answer

    def holds(self, row, names, **put):
        """A row that puts a name, told by what that name holds then."""
        for at in (0, 2):
            self.assertEqual(self.step(row, names, at, 4), (at + 1, {**names, **put}, []), row)


class Putting(Steps):
    def test_put(self):
        for number in EDGES:
            self.holds(("put", "a", number), {"a": 8, "b": 9}, a=number)

    def test_copy(self):
        self.holds(("copy", "a", "b"), {"a": 8, "b": 9}, a=9)
        self.holds(("copy", "b", "a"), {"a": 8, "b": 9}, b=8)
        self.holds(("copy", "a", "a"), {"a": 8, "b": 9}, a=8)

    def test_a_name_that_held_nothing_holds_the_number(self):
        self.holds(("put", "a", 7), {}, a=7)
        self.holds(("copy", "a", "b"), {"b": 9}, a=9)

    def test_other_names_stay(self):
        self.holds(("add", "c", "a", "b"), {"a": 8, "b": 9, "c": 1, "other": 6}, c=17)


class Works(Steps):
    def test_add(self):
        self.holds(("add", "c", "a", "b"), {"a": 8, "b": 9, "c": 5}, c=17)
        self.holds(("add", "c", "a", "b"), {"a": 999999, "b": 1, "c": 5}, c=0)
        self.holds(("add", "c", "a", "b"), {"a": 999999, "b": 999999, "c": 5}, c=999998)
        self.holds(("add", "c", "a", "b"), {"a": 999998, "b": 1, "c": 5}, c=999999)

    def test_minus(self):
        self.holds(("minus", "c", "a", "b"), {"a": 9, "b": 2, "c": 5}, c=7)
        self.holds(("minus", "c", "a", "b"), {"a": 2, "b": 9, "c": 5}, c=999993)
        self.holds(("minus", "c", "a", "b"), {"a": 0, "b": 1, "c": 5}, c=999999)
        self.holds(("minus", "c", "a", "b"), {"a": 0, "b": 999999, "c": 5}, c=1)
        self.holds(("minus", "c", "a", "b"), {"a": 4, "b": 4, "c": 5}, c=0)

    def test_times(self):
        self.holds(("times", "c", "a", "b"), {"a": 6, "b": 7, "c": 5}, c=42)
        self.holds(("times", "c", "a", "b"), {"a": 1000, "b": 1000, "c": 5}, c=0)
        self.holds(("times", "c", "a", "b"), {"a": 1234, "b": 5678, "c": 5}, c=6652)
        self.holds(("times", "c", "a", "b"), {"a": 999999, "b": 999999, "c": 5}, c=1)
        self.holds(("times", "c", "a", "b"), {"a": 0, "b": 999999, "c": 5}, c=0)

    def test_less(self):
        self.holds(("less", "c", "a", "b"), {"a": 3, "b": 4, "c": 5}, c=1)
        self.holds(("less", "c", "a", "b"), {"a": 4, "b": 4, "c": 5}, c=0)
        self.holds(("less", "c", "a", "b"), {"a": 5, "b": 4, "c": 5}, c=0)
        self.holds(("less", "c", "a", "b"), {"a": 0, "b": 999999, "c": 5}, c=1)
        self.holds(("less", "c", "a", "b"), {"a": 999999, "b": 0, "c": 5}, c=0)

    def test_all_pairs_of_edges(self):
        for one in EDGES:
            for other in EDGES:
                names = {"a": one, "b": other, "c": 5}
                self.holds(("add", "c", "a", "b"), names, c=(one + other) % 1000000)
                self.holds(("minus", "c", "a", "b"), names, c=(one - other) % 1000000)
                self.holds(("times", "c", "a", "b"), names, c=(one * other) % 1000000)
                self.holds(("less", "c", "a", "b"), names, c=int(one < other))

    def test_the_same_name_in_two_places(self):
        names = {"a": 800000, "b": 300000}
        self.holds(("add", "a", "a", "b"), names, a=100000)
        self.holds(("add", "b", "a", "b"), names, b=100000)
        self.holds(("add", "b", "a", "a"), names, b=600000)
        self.holds(("minus", "a", "a", "b"), names, a=500000)
        self.holds(("minus", "b", "a", "b"), names, b=500000)
        self.holds(("minus", "a", "b", "a"), names, a=500000)
        self.holds(("minus", "b", "a", "a"), names, b=0)
        self.holds(("times", "a", "a", "b"), {"a": 7, "b": 6}, a=42)
        self.holds(("times", "b", "a", "b"), {"a": 7, "b": 6}, b=42)
        self.holds(("times", "b", "a", "a"), {"a": 7, "b": 6}, b=49)
        self.holds(("less", "a", "b", "a"), names, a=1)
        self.holds(("less", "b", "b", "a"), names, b=1)
        self.holds(("less", "b", "a", "b"), names, b=0)
        self.holds(("less", "b", "a", "a"), names, b=0)

    def test_the_same_name_in_three_places(self):
        self.holds(("add", "a", "a", "a"), {"a": 600000}, a=200000)
        self.holds(("minus", "a", "a", "a"), {"a": 600000}, a=0)
        self.holds(("times", "a", "a", "a"), {"a": 12}, a=144)
        self.holds(("less", "a", "a", "a"), {"a": 12}, a=0)


class Telling(Steps):
    def test_a_tell_tells_what_its_name_holds(self):
        for number in EDGES:
            names = {"a": number, "b": 6}
            self.assertEqual(self.step(("tell", "a"), names), (1, names, [number]))
            self.assertEqual(self.step(("tell", "a"), names, 2, 4), (3, names, [number]))

    def test_no_other_row_tells(self):
        for at, row in enumerate(EACH):
            if row[0] != "tell":
                self.assertEqual(stepped(EACH, at, HELD)[2], [], row)


class Going(Steps):
    def test_a_jump_on_and_back_and_to_itself(self):
        for place in range(4):
            self.assertEqual(self.step(("jump", place), {"a": 6}, 2, 4), (place, {"a": 6}, []))

    def test_a_zero_of_0_goes_to_its_place(self):
        for place in range(4):
            names = {"a": 0, "b": 6}
            self.assertEqual(self.step(("zero", "a", place), names, 2, 4), (place, names, []))

    def test_a_zero_of_another_number_goes_to_the_next_row(self):
        for place in range(4):
            for number in (1, 2, 10, 999999):
                names = {"a": number, "b": 0}
                self.assertEqual(self.step(("zero", "a", place), names, 2, 4), (3, names, []))

    def test_the_last_row_goes_behind_itself(self):
        self.assertEqual(self.step(("put", "a", 1), {"a": 0}, 3, 4)[0], 4)
        self.assertEqual(self.step(("tell", "a"), {"a": 0}, 3, 4)[0], 4)
        self.assertEqual(self.step(("zero", "a", 0), {"a": 1}, 3, 4)[0], 4)

    def test_a_stop_is_no_step(self):
        self.assertEqual(self.step(("stop",), {"a": 6}, 1, 3), (1, {"a": 6}, []))

    def test_there_is_no_step_behind_the_last_row(self):
        self.assertEqual(stepped([("put", "a", 5)], 1, {"a": 6}), (1, {"a": 6}, []))
        self.assertEqual(stepped([], 0, {}), (0, {}, []))


class OwnAnswers(unittest.TestCase):
    def test_changing_an_answer_changes_no_later_one(self):
        rows, names = list(EACH), dict(HELD)
        for at in range(len(rows)):
            first = stepped(rows, at, names)
            kept = copy.deepcopy(first)
            first[1].clear()
            first[1]["b"] = 77
            first[2].append(88)
            self.assertEqual(stepped(rows, at, names), kept)
        self.assertEqual(rows, EACH)
        self.assertEqual(names, HELD)


if __name__ == "__main__":
    unittest.main()
