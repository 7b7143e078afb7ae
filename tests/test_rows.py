"""Points 2 and 3: what a program is, its names, and the refusal of all else."""

import copy
import unittest

from tracefold.errors import NoPlace, NoRow
from tracefold.plain import plain
from tracefold.rows import checked, names_in

STOP = ("stop",)

NO_NAMES = [
    "", "abcdefghi", "abcdefghij", "A", "aB", "Ab", "a1", "1", "a_b", "_", "a b", " a", "a ", "a-",
    "a\n", "\n", "{", "`", "\u00e9", "\u00df", "a\u0301", "\u0430", "\uff41", "\u00b5",
    None, 1, 0, True, b"a", ("a",), ["a"], [], {"a": 1}, 1.0,
]

NO_NUMBERS = [-1, 1000000, 1000001, -1000000, 10 ** 30, True, False, "1", "", "a", None, 1.0, (1,), [1]]

NO_WHOLE_NUMBERS = [True, False, None, "0", "", "a", 0.0, 1.5, (0,), [0], b"0"]

NO_ROWS = [
    # no tuples
    None, 0, 5, True, "stop", "put", ["stop"], ["put", "a", 1], {"put": 1}, {"stop"}, [], b"stop", 1.0,
    # tuples of no length of a row
    (), ("put",), ("put", "a"), ("put", "a", 1, 2), ("copy",), ("copy", "a"), ("copy", "a", "b", "c"),
    ("add", "a", "b"), ("add", "a", "b", "c", "d"), ("minus", "a", "b"), ("minus", "a", "b", "c", "d"),
    ("times", "a", "b"), ("times", "a", "b", "c", "d"), ("less", "a", "b"), ("less", "a", "b", "c", "d"),
    ("tell",), ("tell", "a", "b"), ("jump",), ("jump", 0, 0), ("zero",), ("zero", "a"), ("zero", "a", 0, 0),
    ("stop", 0), ("stop", "a"), ("stop", None),
    # unknown words
    ("PUT", "a", 1), ("Stop",), ("stop ",), ("",), ("mul", "a", "b", "c"), ("guard", "a", True, 0, 1, ()),
    ("halt",), (b"stop",), (None,), (0,), (True,), (["stop"],), (("stop",),), ({"stop": 1},), ([], "a", 1),
    ("a", "put", 1), ("nonzero", "a", 0), ("less than", "a", "b", "c"),
    # parts of another kind
    ("put", 1, "a"), ("put", "a", "b"), ("copy", "a", 1), ("copy", 1, "a"), ("add", "a", "b", 1),
    ("add", "a", 1, "b"), ("minus", "a", 1, 2), ("times", "a", 2, "a"), ("less", "a", "b", 0), ("tell", 5),
    ("jump", "a"), ("zero", 0, "a"), ("zero", 0, 0), ("zero", "a", "a"),
]


def rows_with_name(name):
    """Each kind of row, with this in each place of a name."""
    found = [("put", name, 1), ("copy", name, "a"), ("copy", "a", name), ("tell", name), ("zero", name, 0)]
    for word in ("add", "minus", "times", "less"):
        found += [(word, name, "a", "b"), (word, "a", name, "b"), (word, "a", "b", name)]
    return found


class Refusals(unittest.TestCase):
    def refused(self, rows, kind, at):
        for refuse in (checked, lambda given: plain(given, 5), lambda given: plain(given, 0)):
            with self.assertRaises(kind) as caught:
                refuse(rows)
            self.assertIs(type(caught.exception), kind, rows)
            self.assertEqual(caught.exception.at, at, rows)
            self.assertIs(type(caught.exception.at), int)

    def taken(self, rows):
        before = copy.deepcopy(rows)
        self.assertIsNone(checked(rows))
        plain(rows, 5)
        self.assertEqual(rows, before)


class NoRows(Refusals):
    def test_what_is_none_of_the_tuples(self):
        for row in NO_ROWS:
            self.refused([row], NoRow, 0)
            self.refused([STOP, STOP, row, STOP], NoRow, 2)

    def test_wrong_names_in_every_place_of_a_name(self):
        for name in NO_NAMES:
            for row in rows_with_name(name):
                self.refused([row], NoRow, 0)

    def test_wrong_numbers(self):
        for number in NO_NUMBERS:
            self.refused([("tell", "a"), ("put", "a", number)], NoRow, 1)

    def test_places_that_are_no_whole_numbers(self):
        for place in NO_WHOLE_NUMBERS:
            self.refused([STOP, ("jump", place)], NoRow, 1)
            self.refused([STOP, ("zero", "a", place)], NoRow, 1)

    def test_a_row_behind_a_stop_counts_too(self):
        self.refused([STOP, ("put", "a", -1)], NoRow, 1)


class NoPlaces(Refusals):
    def test_places_below_at_and_beyond_the_number_of_rows(self):
        for place in (-1000000, -3, -2, -1, 3, 4, 100, 10 ** 30):
            self.refused([STOP, ("jump", place), STOP], NoPlace, 1)
            self.refused([STOP, ("zero", "a", place), STOP], NoPlace, 1)

    def test_a_program_of_one_row(self):
        self.refused([("jump", 1)], NoPlace, 0)
        self.refused([("jump", -1)], NoPlace, 0)
        self.refused([("zero", "a", 1)], NoPlace, 0)

    def test_a_wrong_name_beside_a_wrong_place_is_no_row(self):
        self.refused([("zero", "A", 9)], NoRow, 0)
        self.refused([("zero", "", -1)], NoRow, 0)


class FirstWrongRow(Refusals):
    def test_the_first_of_several_counts_whatever_its_kind(self):
        no_row, no_place = ("put", "a", -1), ("jump", 9)
        self.refused([STOP, no_row, no_place, no_row], NoRow, 1)
        self.refused([STOP, no_place, no_row, no_place], NoPlace, 1)
        self.refused([no_place, no_row], NoPlace, 0)
        self.refused([no_row, no_place], NoRow, 0)
        self.refused([STOP, STOP, no_row, no_row], NoRow, 2)
        self.refused([STOP, STOP, no_place, no_place], NoPlace, 2)

    def test_wrong_rows_count_as_rows_for_places(self):
        self.refused([("jump", 1), None], NoRow, 1)

    def test_rows_are_left_as_they_were(self):
        rows = [["stop"], ("jump", 9)]
        self.refused(rows, NoRow, 0)
        self.assertEqual(rows, [["stop"], ("jump", 9)])


class Programs(Refusals):
    def test_an_empty_program(self):
        self.taken([])

    def test_each_kind_of_row(self):
        self.taken([
            ("put", "a", 5), ("copy", "b", "a"), ("add", "c", "a", "b"), ("minus", "c", "a", "b"),
            ("times", "c", "a", "b"), ("less", "c", "a", "b"), ("tell", "c"), ("jump", 0), ("zero", "c", 9),
            ("stop",),
        ])

    def test_names_of_1_and_of_8_letters(self):
        for name in ("a", "z", "m", "ab", "abcdefg", "abcdefgh", "zzzzzzzz", "put", "stop", "jump"):
            for row in rows_with_name(name):
                self.taken([row])

    def test_numbers_from_0_to_999999(self):
        for number in (0, 1, 500000, 999998, 999999):
            self.taken([("put", "a", number)])

    def test_places_from_the_first_to_the_last_row(self):
        for place in (0, 1, 2):
            self.taken([STOP, ("jump", place), STOP])
            self.taken([STOP, STOP, ("zero", "a", place)])
        self.taken([("jump", 0)])

    def test_a_hundred_rows(self):
        self.taken([("put", "a", 1)] * 99 + [("jump", 99)])


class NamesIn(unittest.TestCase):
    def test_no_names(self):
        self.assertEqual(names_in([]), [])
        self.assertEqual(names_in([("stop",), ("jump", 0)]), [])

    def test_each_place_of_a_name(self):
        self.assertEqual(names_in([("put", "a", 5)]), ["a"])
        self.assertEqual(names_in([("copy", "b", "a")]), ["a", "b"])
        for word in ("add", "minus", "times", "less"):
            self.assertEqual(names_in([(word, "z", "b", "m")]), ["b", "m", "z"])
        self.assertEqual(names_in([("tell", "t")]), ["t"])
        self.assertEqual(names_in([("zero", "q", 0)]), ["q"])

    def test_sorted_and_each_once(self):
        rows = [
            ("zero", "z", 0), ("tell", "b"), ("add", "b", "b", "b"), ("put", "aa", 0), ("copy", "a", "z"),
            ("stop",), ("less", "ab", "b", "aa"), ("jump", 0), ("tell", "abcdefgh"),
        ]
        self.assertEqual(names_in(rows), ["a", "aa", "ab", "abcdefgh", "b", "z"])

    def test_words_of_rows_may_be_names(self):
        self.assertEqual(names_in([("put", "tell", 1), ("tell", "put")]), ["put", "tell"])

    def test_the_answer_is_a_list_of_the_asker(self):
        rows = [("copy", "b", "a")]
        first = names_in(rows)
        self.assertIs(type(first), list)
        first.append("zz")
        first[0] = "x"
        self.assertEqual(names_in(rows), ["a", "b"])
        self.assertEqual(rows, [("copy", "b", "a")])


if __name__ == "__main__":
    unittest.main()
