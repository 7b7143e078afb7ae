"""Points 10 and 11: what is needed of a trace."""

import unittest

from making import all_values, check_same_rounds, check_shortening, names_of_trace

from tracefold.needed import needed

PUTTING = (
    ("put", "a", 7), ("copy", "a", "b"), ("copy", "a", 5), ("add", "a", "b", "c"), ("minus", "a", "b", 1),
    ("times", "a", 2, "c"), ("less", "a", "b", "c"),
)
WORKING = PUTTING[1:]


def guard(source, nought=True, place=8, steps=4, repairs=()):
    return "guard", source, nought, place, steps, repairs


class Needed(unittest.TestCase):
    def needs(self, rows, answer):
        trace = (3, rows, 20)
        check_shortening(self, needed, trace, (3, answer, 20))
        check_same_rounds(self, trace, needed(trace), all_values(names_of_trace(trace)))

    def stays(self, rows):
        self.needs(rows, list(rows))


class NoGuardBetween(Needed):
    def test_an_empty_trace(self):
        self.stays([])
        self.assertEqual(needed((0, [], 1)), (0, [], 1))

    def test_each_row_that_puts_a_name_goes_where_it_is_put_again(self):
        for first in PUTTING:
            for later in PUTTING:
                self.needs([first, later], [later])
                self.needs([first, ("tell", "d"), later], [("tell", "d"), later])
                self.needs([first, ("put", "d", 3), later], [("put", "d", 3), later])

    def test_several_rows_go(self):
        self.needs([("put", "a", 1), ("put", "a", 2), ("add", "a", "b", "b"), ("put", "a", 3)], [("put", "a", 3)])
        self.needs([("put", "a", 1), ("put", "b", 2), ("put", "a", 3), ("put", "b", 4)],
                   [("put", "a", 3), ("put", "b", 4)])

    def test_what_is_not_put_again_stays(self):
        for row in PUTTING:
            self.stays([row])
        self.stays([("put", "a", 1), ("put", "b", 2), ("copy", "c", 3), ("add", "d", 3, 4)])

    def test_what_the_last_row_puts_stays(self):
        self.stays([("tell", "a"), ("put", "a", 1)])

    def test_a_read_as_a_source_of_a_row_between(self):
        for first in PUTTING:
            for reading in (
                ("copy", "d", "a"), ("add", "d", "a", 1), ("add", "d", 1, "a"), ("minus", "d", "a", 1),
                ("minus", "d", 1, "a"), ("times", "d", "a", 1), ("less", "d", 1, "a"),
            ):
                self.stays([first, reading, ("put", "a", 9)])

    def test_a_read_as_a_source_of_the_later_row(self):
        for first in PUTTING:
            for later in (("add", "a", "a", 1), ("add", "a", 1, "a"), ("minus", "a", "a", "a"), ("copy", "a", "a")):
                self.stays([first, later])

    def test_a_read_by_a_tell(self):
        for first in PUTTING:
            self.stays([first, ("tell", "a"), ("put", "a", 9)])

    def test_a_read_behind_the_later_row_does_not_count(self):
        self.needs([("put", "a", 1), ("put", "a", 2), ("tell", "a")], [("put", "a", 2), ("tell", "a")])

    def test_a_read_ahead_of_the_row_does_not_count(self):
        self.needs([("tell", "a"), ("put", "a", 1), ("put", "a", 2)], [("tell", "a"), ("put", "a", 2)])

    def test_a_read_by_a_row_that_goes_does_not_count(self):
        self.needs([("put", "a", 1), ("copy", "b", "a"), ("put", "b", 2), ("put", "a", 3)],
                   [("put", "b", 2), ("put", "a", 3)])
        self.needs([("add", "a", "a", 1), ("add", "a", "a", 1), ("put", "a", 3)], [("put", "a", 3)])
        puts = [("put", "d", 1), ("put", "b", 1), ("put", "a", 1)]
        self.needs([("add", "a", "c", 1), ("times", "b", "a", "a"), ("copy", "d", "b")] + puts, puts)

    def test_words_of_rows_may_be_names(self):
        for word in ("tell", "guard", "put", "copy", "add"):
            self.needs([("put", word, 1), ("tell", "d"), ("copy", "e", "d"), ("put", word, 2)],
                       [("tell", "d"), ("copy", "e", "d"), ("put", word, 2)])
            self.needs([("put", word, 1), guard("d"), ("put", word, 2)],
                       [guard("d", repairs=((word, 1),)), ("put", word, 2)])

    def test_guards_elsewhere(self):
        for row in PUTTING:
            self.needs([guard("d"), row, ("put", "a", 9), guard("d")], [guard("d"), ("put", "a", 9), guard("d")])


class GuardsBetween(Needed):
    def test_a_put_goes_and_the_guard_gets_a_repair(self):
        self.needs([("put", "a", 7), guard("d"), ("put", "a", 9)],
                   [guard("d", repairs=(("a", 7),)), ("put", "a", 9)])
        for later in WORKING:
            self.needs([("put", "a", 0), guard("d", False), later], [guard("d", False, repairs=(("a", 0),)), later])

    def test_all_guards_between_get_a_repair(self):
        self.needs(
            [guard("d", steps=1), ("put", "a", 7), guard("d", steps=2), ("tell", "e"), guard("e", False, 6, 3),
             ("put", "a", 9), guard("d", steps=4)],
            [guard("d", steps=1), guard("d", steps=2, repairs=(("a", 7),)), ("tell", "e"),
             guard("e", False, 6, 3, (("a", 7),)), ("put", "a", 9), guard("d", steps=4)])

    def test_a_guard_of_a_number(self):
        self.needs([("put", "a", 7), guard(1), ("put", "a", 9)], [guard(1, repairs=(("a", 7),)), ("put", "a", 9)])

    def test_a_repair_stands_behind_the_guards_own(self):
        own = (("z", "e"), ("d", 4))
        self.needs([("put", "a", 7), guard("d", repairs=own), ("put", "a", 9)],
                   [guard("d", repairs=own + (("a", 7),)), ("put", "a", 9)])

    def test_repairs_of_several_puts(self):
        self.needs([("put", "a", 7), ("put", "b", 8), guard("d"), ("put", "a", 9), ("put", "b", 9)],
                   [guard("d", repairs=(("a", 7), ("b", 8))), ("put", "a", 9), ("put", "b", 9)])
        self.needs([("put", "a", 7), ("put", "b", 8), guard("d"), ("put", "b", 9), ("put", "a", 9)],
                   [guard("d", repairs=(("a", 7), ("b", 8))), ("put", "b", 9), ("put", "a", 9)])
        self.needs([("put", "a", 7), guard("d"), ("put", "b", 8), guard("e"), ("put", "a", 9), ("put", "b", 9)],
                   [guard("d", repairs=(("a", 7),)), guard("e", repairs=(("a", 7), ("b", 8))), ("put", "a", 9),
                    ("put", "b", 9)])

    def test_puts_one_behind_another(self):
        self.needs([("put", "a", 7), guard("d"), ("put", "a", 8), guard("e"), ("put", "a", 9)],
                   [guard("d", repairs=(("a", 7),)), guard("e", repairs=(("a", 8),)), ("put", "a", 9)])
        self.needs([("put", "a", 7), ("put", "a", 8), guard("e"), ("put", "a", 9)],
                   [guard("e", repairs=(("a", 8),)), ("put", "a", 9)])

    def test_a_row_that_is_no_put_stays(self):
        for first in WORKING:
            for later in PUTTING:
                self.stays([first, guard("d"), later])

    def test_a_copy_of_a_name_that_is_put_anew_later(self):
        self.stays([("copy", "a", "b"), ("put", "b", 4), guard("d"), ("put", "a", 9)])
        self.stays([("copy", "a", "b"), ("add", "b", "b", 1), guard("d"), ("put", "a", 9), ("tell", "b")])
        # The first put of b goes, but not the copy: at the guard b holds another number than a.
        self.needs([("copy", "a", "b"), ("put", "b", 4), guard("d"), ("put", "b", 5), ("put", "a", 9)],
                   [("copy", "a", "b"), guard("d", repairs=(("b", 4),)), ("put", "b", 5), ("put", "a", 9)])

    def test_a_put_stays_that_a_guard_reads(self):
        self.stays([("put", "a", 7), guard("a"), ("put", "a", 9)])
        self.stays([("put", "a", 0), guard("d"), guard("a"), ("put", "a", 9)])

    def test_a_put_stays_that_a_guards_repairs_read(self):
        self.stays([("put", "a", 7), guard("d", repairs=(("b", "a"),)), ("put", "a", 9)])
        self.stays([("put", "a", 7), guard("d", repairs=(("a", "a"),)), ("put", "a", 9)])
        repairs = (("b", 3), ("a", "b"), ("c", "a"))
        self.stays([("put", "a", 7), guard("d"), guard("e", repairs=repairs), ("put", "a", 9)])

    def test_a_row_stays_that_a_guards_repairs_read(self):
        for first in PUTTING:
            self.stays([first, guard("d", repairs=(("e", "a"),)), ("put", "a", 9)])

    def test_a_put_stays_that_is_read_ahead_of_the_later_row(self):
        self.stays([("put", "a", 7), guard("d"), ("tell", "a"), ("put", "a", 9)])
        self.stays([("put", "a", 7), guard("d"), ("add", "a", "a", 1)])
        self.stays([("put", "a", 7), ("copy", "b", "a"), guard("d"), ("put", "a", 9)])

    def test_a_put_that_is_not_put_again_stays(self):
        self.stays([("put", "a", 7), guard("d"), ("put", "b", 9)])

    def test_a_guard_that_repairs_the_name_itself(self):
        self.needs([("put", "a", 7), guard("d", repairs=(("a", 3),)), ("put", "a", 9)],
                   [guard("d", repairs=(("a", 3),)), ("put", "a", 9)])
        self.needs([("put", "a", 7), guard("d", repairs=(("a", "b"),)), guard("e"), ("put", "a", 9)],
                   [guard("d", repairs=(("a", "b"),)), guard("e", repairs=(("a", 7),)), ("put", "a", 9)])

    def test_a_row_goes_whose_later_row_goes(self):
        # Ahead of the put no guard stands: the row goes, though the put goes too.
        for first in PUTTING:
            self.needs([first, ("put", "a", 8), guard("d"), ("put", "a", 9)],
                       [guard("d", repairs=(("a", 8),)), ("put", "a", 9)])

    def test_a_row_stays_ahead_of_a_guard_and_a_put_that_goes(self):
        for first in WORKING:
            self.needs([first, guard("d"), ("put", "a", 8), guard("e"), ("put", "a", 9)],
                       [first, guard("d"), guard("e", repairs=(("a", 8),)), ("put", "a", 9)])

    def test_a_put_goes_ahead_of_a_row_that_stays(self):
        self.needs([("put", "a", 7), guard("d"), ("add", "a", "b", 1), guard("d"), ("put", "a", 9)],
                   [guard("d", repairs=(("a", 7),)), ("add", "a", "b", 1), guard("d"), ("put", "a", 9)])

    def test_reads_of_rows_that_stay_for_a_guard_count(self):
        self.stays([("put", "b", 7), ("copy", "a", "b"), guard("d"), ("put", "a", 9), ("put", "b", 9)])

    def test_guards_and_tells_all_stay(self):
        self.stays([guard("a"), guard("a"), ("tell", "a"), ("tell", "a"), guard(0), guard(1), ("tell", 3), ("tell", 3)])


class WholeTraces(Needed):
    def test_all_in_their_order(self):
        self.needs(
            [
                ("put", "t", 3), ("add", "s", "s", "t"), guard("n", False, 20, 3), ("put", "t", 4), ("put", "u", 1),
                guard("s", False, 21, 6, (("v", "s"),)), ("copy", "v", "s"), ("put", "u", 2), ("put", "v", 5),
                ("tell", "s"), guard("u", False, 22, 9), ("less", "t", "s", 9), ("put", "u", 3),
            ],
            [
                ("put", "t", 3), ("add", "s", "s", "t"), guard("n", False, 20, 3),
                guard("s", False, 21, 6, (("v", "s"), ("t", 4), ("u", 1))), ("put", "u", 2), ("put", "v", 5),
                ("tell", "s"), guard("u", False, 22, 9, (("t", 4),)), ("less", "t", "s", 9), ("put", "u", 3),
            ])


if __name__ == "__main__":
    unittest.main()
