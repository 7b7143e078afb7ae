"""Points 9 and 11: what is known ahead of a round."""

import unittest

from making import all_values, check_same_rounds, check_shortening, names_of_trace

from tracefold.known import known


def guard(source, nought, place=8, steps=4, repairs=()):
    return "guard", source, nought, place, steps, repairs


class Known(unittest.TestCase):
    def knows(self, rows, answer):
        trace = (3, rows, 20)
        check_shortening(self, known, trace, (3, answer, 20))
        check_same_rounds(self, trace, known(trace), all_values(names_of_trace(trace)))

    def stays(self, rows):
        self.knows(rows, list(rows))


class NothingKnown(Known):
    def test_an_empty_trace(self):
        self.stays([])

    def test_each_row_alone_stays(self):
        for row in (
            ("put", "a", 0), ("put", "a", 7), ("copy", "a", "b"), ("add", "a", "b", "c"), ("minus", "a", "b", "c"),
            ("times", "a", "b", "c"), ("less", "a", "b", "c"), ("tell", "a"), ("tell", 5), guard("a", True),
            guard("a", False), guard("a", True, 0, 1, (("b", "c"), ("c", 4))),
        ):
            self.stays([row])

    def test_the_start_and_the_steps_stay(self):
        self.assertEqual(known((0, [], 1)), (0, [], 1))
        self.assertEqual(known((99, [("put", "a", 3), ("tell", "a")], 60)), (99, [("put", "a", 3), ("tell", 3)], 60))


class SourcesGiveWay(Known):
    def test_a_put_tells_a_number(self):
        self.knows([("put", "a", 7), ("tell", "a")], [("put", "a", 7), ("tell", 7)])
        self.knows([("put", "a", 7), ("add", "b", "a", "c")], [("put", "a", 7), ("add", "b", 7, "c")])
        self.knows([("put", "a", 7), ("minus", "b", "c", "a")], [("put", "a", 7), ("minus", "b", "c", 7)])
        self.knows([("put", "a", 7), ("times", "b", "a", "c")], [("put", "a", 7), ("times", "b", 7, "c")])
        self.knows([("put", "a", 7), ("less", "b", "c", "a")], [("put", "a", 7), ("less", "b", "c", 7)])

    def test_a_copy_tells_another_name(self):
        self.knows([("copy", "a", "b"), ("tell", "a")], [("copy", "a", "b"), ("tell", "b")])
        for word in ("add", "minus", "times", "less"):
            self.knows([("copy", "a", "b"), (word, "d", "a", "c")], [("copy", "a", "b"), (word, "d", "b", "c")])
            self.knows([("copy", "a", "b"), (word, "d", "c", "a")], [("copy", "a", "b"), (word, "d", "c", "b")])
        self.knows([("copy", "a", "b"), guard("a", False)], [("copy", "a", "b"), guard("b", False)])
        self.knows([("copy", "a", "b"), guard("a", True)], [("copy", "a", "b"), guard("b", True)])

    def test_a_copy_of_a_copy(self):
        self.knows([("copy", "a", "b"), ("copy", "c", "a"), ("tell", "c")],
                   [("copy", "a", "b"), ("copy", "c", "b"), ("tell", "b")])

    def test_a_passed_guard_tells_0(self):
        self.knows([guard("a", True), ("tell", "a")], [guard("a", True), ("tell", 0)])
        self.knows([guard("a", True), ("minus", "b", "a", "c")], [guard("a", True), ("minus", "b", 0, "c")])
        self.knows([guard("a", True), ("less", "b", "a", "c")], [guard("a", True), ("less", "b", 0, "c")])

    def test_a_guard_that_is_passed_by_what_is_not_0_tells_no_number(self):
        self.stays([guard("a", False), ("tell", "a"), ("add", "b", "a", "c"), ("less", "d", "e", "a")])

    def test_the_number_of_another_name(self):
        # What is known of b at the tell is a number, so a gives way to that.
        self.knows([("copy", "a", "b"), guard("b", True), ("tell", "a"), ("minus", "c", "a", "d")],
                   [("copy", "a", "b"), guard("b", True), ("tell", 0), ("minus", "c", 0, "d")])
        self.knows([("copy", "a", "b"), guard("a", True), ("tell", "a"), ("tell", "b")],
                   [("copy", "a", "b"), guard("b", True), ("tell", 0), ("tell", 0)])

    def test_repairs_do_not_give_way(self):
        repairs = (("c", "a"), ("d", "b"))
        self.knows([("put", "a", 7), ("copy", "b", "e"), guard("b", True, 8, 4, repairs)],
                   [("put", "a", 7), ("copy", "b", "e"), guard("e", True, 8, 4, repairs)])
        self.stays([guard("a", True), guard("b", True, 8, 4, (("c", "a"), ("a", "b")))])

    def test_a_repair_of_a_guard_that_is_passed_puts_nothing(self):
        self.knows([("put", "a", 7), guard("b", True, 8, 4, (("a", 3),)), ("tell", "a")],
                   [("put", "a", 7), guard("b", True, 8, 4, (("a", 3),)), ("tell", 7)])

    def test_what_is_put_does_not_give_way(self):
        self.knows([("put", "a", 7), ("add", "a", "b", "c")], [("put", "a", 7), ("add", "a", "b", "c")])
        self.knows([("copy", "a", "b"), ("put", "a", 7)], [("copy", "a", "b"), ("put", "a", 7)])


class UntilPutAnew(Known):
    def test_a_number_until_the_name_is_put_anew(self):
        self.knows([("put", "a", 7), ("tell", "a"), ("put", "a", 8), ("tell", "a")],
                   [("put", "a", 7), ("tell", 7), ("put", "a", 8), ("tell", 8)])
        for row in (("copy", "a", "b"), ("add", "a", "b", "c"), ("minus", "a", "b", "c"),
                    ("times", "a", "b", "c"), ("less", "a", "b", "c")):
            # Told by d: a source a would give way to b after the copy.
            told = "b" if row[0] == "copy" else "a"
            self.knows([("put", "a", 7), row, ("tell", "a")], [("put", "a", 7), row, ("tell", told)])

    def test_a_number_of_a_guard_until_the_name_is_put_anew(self):
        self.stays([guard("a", True), ("add", "a", "b", "c"), ("tell", "a"), guard("a", True)])
        self.knows([guard("a", True), ("put", "a", 3), ("tell", "a")], [guard("a", True), ("put", "a", 3), ("tell", 3)])

    def test_not_0_until_the_name_is_put_anew(self):
        self.stays([guard("a", False), ("add", "a", "b", "c"), guard("a", False)])
        self.knows([guard("a", False), ("copy", "a", "b"), guard("a", False)],
                   [guard("a", False), ("copy", "a", "b"), guard("b", False)])
        self.stays([guard("a", False), ("add", "a", "a", "b"), guard("a", False)])

    def test_another_name_until_the_first_is_put_anew(self):
        self.stays([("copy", "a", "b"), ("add", "a", "c", "d"), ("tell", "a")])
        self.knows([("copy", "a", "b"), ("put", "a", 4), ("tell", "a"), ("tell", "b")],
                   [("copy", "a", "b"), ("put", "a", 4), ("tell", 4), ("tell", "b")])
        self.knows([("copy", "a", "b"), ("copy", "a", "c"), ("tell", "a")],
                   [("copy", "a", "b"), ("copy", "a", "c"), ("tell", "c")])

    def test_another_name_until_the_other_is_put_anew(self):
        for row in (("put", "b", 4), ("copy", "b", "c"), ("add", "b", "c", "d"), ("add", "b", "b", "b")):
            self.stays([("copy", "a", "b"), row, ("tell", "a")])

    def test_all_that_hold_what_another_one_holds(self):
        self.stays([("copy", "a", "b"), ("copy", "c", "b"), ("add", "b", "d", "d"), ("tell", "a"), ("tell", "c")])
        self.knows([("copy", "a", "b"), ("copy", "c", "b"), ("add", "a", "d", "d"), ("tell", "a"), ("tell", "c")],
                   [("copy", "a", "b"), ("copy", "c", "b"), ("add", "a", "d", "d"), ("tell", "a"), ("tell", "b")])

    def test_the_number_of_another_name_goes_with_it(self):
        # Of a is kept only that it holds what b holds: not so behind the add.
        self.stays([("copy", "a", "b"), guard("b", True), ("add", "b", "c", "d"), ("tell", "a")])

    def test_a_number_that_is_copied_stays_of_its_own(self):
        self.knows([("put", "b", 7), ("copy", "a", "b"), ("add", "b", "c", "c"), ("tell", "a"), ("tell", "b")],
                   [("put", "b", 7), ("put", "a", 7), ("add", "b", "c", "c"), ("tell", 7), ("tell", "b")])

    def test_a_tell_and_a_guard_put_nothing(self):
        self.knows([("copy", "a", "b"), ("tell", "b"), ("tell", "a")],
                   [("copy", "a", "b"), ("tell", "b"), ("tell", "b")])
        self.knows([guard("a", False), ("tell", "a"), guard("a", False)], [guard("a", False), ("tell", "a")])
        self.knows([("copy", "a", "b"), guard("b", False), ("tell", "a")],
                   [("copy", "a", "b"), guard("b", False), ("tell", "b")])

    def test_words_of_rows_may_be_names(self):
        rows = [("put", "tell", 3), ("copy", "guard", "put")]
        self.knows(rows + [("tell", "guard"), guard("guard", True), ("tell", "tell")],
                   rows + [("tell", "put"), guard("put", True), ("tell", 3)])

    def test_a_row_that_puts_a_name_of_itself(self):
        self.stays([("add", "a", "a", "b"), ("tell", "a"), ("add", "a", "a", "b"), ("tell", "a")])
        self.knows([("put", "a", 7), ("add", "a", "a", "b"), ("tell", "a")],
                   [("put", "a", 7), ("add", "a", 7, "b"), ("tell", "a")])
        self.knows([("put", "a", 7), ("add", "a", "a", "a"), ("tell", "a")],
                   [("put", "a", 7), ("put", "a", 14), ("tell", 14)])
        self.knows([("copy", "a", "b"), ("add", "a", "a", "c"), ("tell", "a")],
                   [("copy", "a", "b"), ("add", "a", "b", "c"), ("tell", "a")])
        self.knows([("copy", "a", "b"), ("add", "b", "a", "c"), ("tell", "a"), ("tell", "b")],
                   [("copy", "a", "b"), ("add", "b", "b", "c"), ("tell", "a"), ("tell", "b")])
        self.knows([guard("a", True), ("add", "a", "a", "b"), ("tell", "a")],
                   [guard("a", True), ("copy", "a", "b"), ("tell", "b")])


class WorksComeToBe(Known):
    def test_a_work_of_two_numbers_comes_to_be_a_put(self):
        for one in (0, 1, 3, 999999):
            for other in (0, 1, 5, 999999):
                for word, number in (
                    ("add", (one + other) % 1000000), ("minus", (one - other) % 1000000),
                    ("times", one * other % 1000000), ("less", int(one < other)),
                ):
                    self.knows([(word, "a", one, other), ("tell", "a")], [("put", "a", number), ("tell", number)])
                    self.knows([("put", "b", one), ("put", "c", other), (word, "a", "b", "c")],
                               [("put", "b", one), ("put", "c", other), ("put", "a", number)])

    def test_an_add_with_0(self):
        self.knows([("add", "a", "b", 0), ("tell", "a")], [("copy", "a", "b"), ("tell", "b")])
        self.knows([("add", "a", 0, "b"), ("tell", "a")], [("copy", "a", "b"), ("tell", "b")])
        self.stays([("add", "a", "b", 1), ("add", "c", 1, "b"), ("tell", "a"), ("tell", "c")])

    def test_a_minus_of_0(self):
        self.knows([("minus", "a", "b", 0), ("tell", "a")], [("copy", "a", "b"), ("tell", "b")])
        self.stays([("minus", "a", 0, "b"), ("minus", "c", "b", 1), ("minus", "d", 1, "b"), ("tell", "a")])

    def test_a_times_by_0(self):
        self.knows([("times", "a", "b", 0), ("tell", "a")], [("put", "a", 0), ("tell", 0)])
        self.knows([("times", "a", 0, "b"), ("tell", "a")], [("put", "a", 0), ("tell", 0)])

    def test_a_times_by_1(self):
        self.knows([("times", "a", "b", 1), ("tell", "a")], [("copy", "a", "b"), ("tell", "b")])
        self.knows([("times", "a", 1, "b"), ("tell", "a")], [("copy", "a", "b"), ("tell", "b")])
        self.stays([("times", "a", "b", 2), ("times", "c", 2, "b"), ("tell", "a")])

    def test_a_less_than_0(self):
        self.knows([("less", "a", "b", 0), ("tell", "a")], [("put", "a", 0), ("tell", 0)])
        self.stays([("less", "a", 0, "b"), ("less", "c", "b", 1), ("less", "d", 1, "b"), ("tell", "a")])

    def test_a_minus_or_a_less_of_a_source_with_itself(self):
        self.knows([("minus", "a", "b", "b"), ("tell", "a")], [("put", "a", 0), ("tell", 0)])
        self.knows([("less", "a", "b", "b"), ("tell", "a")], [("put", "a", 0), ("tell", 0)])
        self.knows([("minus", "a", "a", "a"), ("tell", "a")], [("put", "a", 0), ("tell", 0)])
        self.knows([("less", "a", "a", "a"), ("tell", "a")], [("put", "a", 0), ("tell", 0)])
        self.stays([("add", "a", "b", "b"), ("times", "c", "b", "b"), ("tell", "a"), ("tell", "c")])

    def test_sources_that_come_to_be_the_same(self):
        self.knows([("copy", "a", "b"), ("minus", "c", "a", "b")], [("copy", "a", "b"), ("put", "c", 0)])
        self.knows([("copy", "a", "b"), ("less", "c", "b", "a")], [("copy", "a", "b"), ("put", "c", 0)])
        self.knows([("copy", "a", "b"), ("copy", "d", "b"), ("minus", "c", "a", "d")],
                   [("copy", "a", "b"), ("copy", "d", "b"), ("put", "c", 0)])

    def test_numbers_that_are_kept_come_into_works(self):
        self.knows([guard("a", True), ("add", "b", "c", "a"), ("minus", "d", "c", "a"), ("times", "e", "a", "c"),
                    ("less", "f", "c", "a")],
                   [guard("a", True), ("copy", "b", "c"), ("copy", "d", "c"), ("put", "e", 0), ("put", "f", 0)])
        self.knows([("put", "one", 1), ("times", "a", "one", "b")], [("put", "one", 1), ("copy", "a", "b")])

    def test_a_copy_of_a_number(self):
        self.knows([("copy", "a", 5), ("tell", "a")], [("put", "a", 5), ("tell", 5)])
        self.knows([("put", "b", 5), ("copy", "a", "b"), ("tell", "a")],
                   [("put", "b", 5), ("put", "a", 5), ("tell", 5)])
        self.knows([guard("b", True), ("copy", "a", "b")], [guard("b", True), ("put", "a", 0)])

    def test_a_copy_that_comes_of_a_work_is_kept_as_one(self):
        self.knows([("add", "a", "b", 0), ("minus", "c", "a", "b"), ("tell", "c")],
                   [("copy", "a", "b"), ("put", "c", 0), ("tell", 0)])


class LeftOut(Known):
    def test_a_put_of_what_is_kept(self):
        self.knows([("put", "a", 7), ("put", "a", 7)], [("put", "a", 7)])
        self.knows([("put", "a", 7), ("put", "a", 8), ("put", "a", 8), ("put", "a", 7)],
                   [("put", "a", 7), ("put", "a", 8), ("put", "a", 7)])
        self.knows([guard("a", True), ("put", "a", 0), ("tell", "a")], [guard("a", True), ("tell", 0)])

    def test_what_is_only_not_0_is_no_number_that_is_kept(self):
        self.stays([guard("a", False), ("put", "a", 1)])
        self.stays([guard("a", False), ("put", "a", 0)])

    def test_a_copy_of_what_is_kept(self):
        self.knows([("copy", "a", "b"), ("tell", "c"), ("copy", "a", "b")], [("copy", "a", "b"), ("tell", "c")])
        self.knows([("copy", "a", "b"), ("copy", "c", "b"), ("copy", "a", "c"), ("copy", "c", "a")],
                   [("copy", "a", "b"), ("copy", "c", "b")])
        self.knows([("put", "a", 5), ("put", "b", 5), ("copy", "a", "b")], [("put", "a", 5), ("put", "b", 5)])

    def test_a_name_that_holds_what_another_one_holds_of_which_a_number_is_kept(self):
        self.knows([("copy", "a", "b"), guard("b", True), ("put", "a", 0), ("copy", "a", "b"), ("put", "b", 0)],
                   [("copy", "a", "b"), guard("b", True)])
        # Left out, the put of a doesn't end that a holds what b holds.
        self.knows([("copy", "a", "b"), guard("b", True), ("put", "a", 0), ("add", "b", "c", "c"), ("tell", "a")],
                   [("copy", "a", "b"), guard("b", True), ("add", "b", "c", "c"), ("tell", "a")])

    def test_a_copy_of_a_name_to_itself(self):
        self.knows([("copy", "a", "a")], [])
        self.knows([("tell", "a"), ("copy", "a", "a"), ("tell", "a")], [("tell", "a"), ("tell", "a")])

    def test_a_copy_that_comes_to_be_one_to_itself(self):
        self.knows([("copy", "a", "b"), ("copy", "b", "a"), ("tell", "b")], [("copy", "a", "b"), ("tell", "b")])
        self.knows([("add", "a", "a", 0)], [])
        self.knows([("add", "a", 0, "a")], [])
        self.knows([("minus", "a", "a", 0)], [])
        self.knows([("times", "a", "a", 1), ("times", "a", 1, "a")], [])
        self.knows([("copy", "a", "b"), ("add", "b", "a", 0)], [("copy", "a", "b")])
        self.knows([guard("z", True), ("add", "a", "a", "z")], [guard("z", True)])

    def test_a_work_that_comes_to_what_is_kept(self):
        self.knows([("put", "a", 7), ("add", "a", 3, 4)], [("put", "a", 7)])
        self.knows([("put", "a", 0), ("minus", "a", "b", "b"), ("times", "a", "b", "a")], [("put", "a", 0)])
        self.knows([("copy", "a", "b"), ("add", "a", "b", 0)], [("copy", "a", "b")])

    def test_a_row_that_is_left_out_ends_nothing_that_is_kept(self):
        self.knows([guard("a", False), ("add", "a", "a", 0), guard("a", False)], [guard("a", False)])
        self.knows([("copy", "a", "b"), ("copy", "b", "a"), ("tell", "a")], [("copy", "a", "b"), ("tell", "b")])
        self.knows([("copy", "b", "a"), ("times", "a", "a", 1), ("tell", "b")], [("copy", "b", "a"), ("tell", "a")])

    def test_guards_that_are_sure_to_be_passed(self):
        self.knows([guard(0, True), guard(1, False), guard(999999, False), ("tell", "a")], [("tell", "a")])
        self.knows([("put", "a", 7), guard("a", False)], [("put", "a", 7)])
        self.knows([("put", "a", 0), guard("a", True)], [("put", "a", 0)])
        self.knows([guard("a", True), guard("a", True, 5, 9)], [guard("a", True)])
        self.knows([guard("a", False), guard("a", False, 5, 9)], [guard("a", False)])
        self.knows([guard(0, True, 5, 9, (("a", 3),)), ("tell", "a")], [("tell", "a")])

    def test_guards_that_are_sure_by_another_name(self):
        self.knows([guard("b", False), ("copy", "a", "b"), guard("a", False)], [guard("b", False), ("copy", "a", "b")])
        self.knows([("copy", "a", "b"), guard("a", False), guard("b", False), guard("a", False)],
                   [("copy", "a", "b"), guard("b", False)])
        self.knows([("copy", "a", "b"), guard("a", True), guard("b", True)], [("copy", "a", "b"), guard("b", True)])
        # Of a itself it isn't kept that it is not 0, only that it holds what b holds.
        self.knows([guard("b", False), ("copy", "a", "b"), ("add", "b", "c", "c"), guard("a", False)],
                   [guard("b", False), ("copy", "a", "b"), ("add", "b", "c", "c"), guard("a", False)])

    def test_guards_that_are_sure_to_fail_stay(self):
        self.stays([guard(0, False), guard(1, True), guard(999999, True), ("tell", "a")])
        self.knows([("put", "a", 7), guard("a", True), ("tell", "a")], [("put", "a", 7), guard(7, True), ("tell", 7)])
        self.knows([("put", "a", 0), guard("a", False), ("tell", "a")], [("put", "a", 0), guard(0, False), ("tell", 0)])
        self.knows([guard("a", True), guard("a", False, 5, 9, (("b", "a"),))],
                   [guard("a", True), guard(0, False, 5, 9, (("b", "a"),))])
        self.stays([guard("a", False), guard("a", True, 5, 9)])

    def test_behind_a_guard_that_is_sure_to_fail_it_counts_as_passed(self):
        self.knows([guard("a", False), guard("a", True), ("tell", "a"), guard("a", True), guard("a", False)],
                   [guard("a", False), guard("a", True), ("tell", 0), guard(0, False)])

    def test_tells_all_stay(self):
        self.stays([("tell", "a"), ("tell", "a"), ("tell", 3), ("tell", 3)])

    def test_works_that_are_done_twice_stay(self):
        self.stays([("add", "a", "b", "c"), ("add", "a", "b", "c"), ("times", "d", "b", "c"), ("times", "e", "b", "c")])

    def test_puts_that_are_not_read_stay(self):
        self.stays([("put", "a", 1), ("put", "a", 2), ("put", "b", 1)])


class WholeTraces(Known):
    def test_all_in_their_order(self):
        self.knows(
            [
                ("put", "one", 1), ("copy", "i", "n"), guard("i", False, 20, 3), ("times", "p", "i", "one"),
                ("add", "s", "s", "p"), guard("n", False, 21, 6), ("minus", "z", "n", "i"), guard("z", True, 22, 8),
                ("add", "s", "s", "z"), ("tell", "p"), ("minus", "n", "n", "one"), ("tell", "i"), ("copy", "p", "z"),
            ],
            [
                ("put", "one", 1), ("copy", "i", "n"), guard("n", False, 20, 3), ("copy", "p", "n"),
                ("add", "s", "s", "n"), ("put", "z", 0), ("tell", "n"), ("minus", "n", "n", 1), ("tell", "i"),
                ("put", "p", 0),
            ])


if __name__ == "__main__":
    unittest.main()
