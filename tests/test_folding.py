"""Points 12 to 16, and 3: runs by traces, and their logs event by event."""

import copy
import unittest

from making import check_shortening

from tracefold.errors import FoldError, NoPlace, NoRow
from tracefold.folding import folded, shortened
from tracefold.plain import plain

# Counts n down from 5: 2 puts, 5 rounds of 4 steps, a last zero; 23 steps.
DOWN = [
    ("put", "one", 1),          # 0
    ("put", "n", 5),            # 1
    ("zero", "n", 6),           # 2
    ("tell", "n"),              # 3
    ("minus", "n", "n", "one"),     # 4
    ("jump", 2),                # 5
    ("stop",),                  # 6
]
DOWN_TRACE = (2, [("guard", "n", False, 6, 1, ()), ("tell", "n"), ("minus", "n", "n", "one")], 4)

# An inner loop of 4 rounds in an outer one of 3; 69 steps.
LOOPS = [
    ("put", "one", 1),              # 0
    ("put", "outer", 3),            # 1
    ("zero", "outer", 11),          # 2
    ("put", "inner", 4),            # 3
    ("zero", "inner", 8),           # 4
    ("add", "sum", "sum", "one"),   # 5
    ("minus", "inner", "inner", "one"),     # 6
    ("jump", 4),                    # 7
    ("tell", "sum"),                # 8
    ("minus", "outer", "outer", "one"),     # 9
    ("jump", 2),                    # 10
    ("stop",),                      # 11
]
INNER_TRACE = (4, [
    ("guard", "inner", False, 8, 1, ()), ("add", "sum", "sum", "one"), ("minus", "inner", "inner", "one"),
], 4)
# The first inner round needs no guard and no put, as inner is known to hold 4.
OUTER_TRACE = (2, [
    ("guard", "outer", False, 11, 1, ()),
    ("add", "sum", "sum", "one"), ("minus", "inner", 4, "one"), ("guard", "inner", False, 8, 7, ()),
    ("add", "sum", "sum", "one"), ("minus", "inner", "inner", "one"), ("guard", "inner", False, 8, 11, ()),
    ("add", "sum", "sum", "one"), ("minus", "inner", "inner", "one"), ("guard", "inner", False, 8, 15, ()),
    ("add", "sum", "sum", "one"), ("minus", "inner", "inner", "one"), ("guard", "inner", True, 5, 19, ()),
    ("tell", "sum"), ("minus", "outer", "outer", "one"),
], 22)

# Goes by 7 and 8 while n is at most 2, and by 5 and 6 from then on; each round is of 5 steps.
TURNING = [
    ("put", "one", 1),          # 0
    ("put", "lim", 2),          # 1
    ("add", "n", "n", "one"),   # 2
    ("less", "f", "lim", "n"),  # 3
    ("zero", "f", 7),           # 4
    ("tell", "one"),            # 5
    ("jump", 2),                # 6
    ("tell", "n"),              # 7
    ("jump", 2),                # 8
]
FIRST_WAY = (2, [
    ("add", "n", "n", "one"), ("less", "f", "lim", "n"), ("guard", "f", True, 5, 3, ()), ("tell", "n"),
], 5)
SECOND_WAY = (2, [
    ("add", "n", "n", "one"), ("less", "f", "lim", "n"), ("guard", "f", False, 7, 3, ()), ("tell", "one"),
], 5)

# As TURNING, but goes the first way again from n = 11 on.
TURNING_BACK = [
    ("put", "one", 1),          # 0
    ("put", "lim", 2),          # 1
    ("put", "top", 11),         # 2
    ("add", "n", "n", "one"),   # 3
    ("less", "f", "lim", "n"),  # 4
    ("less", "g", "n", "top"),  # 5
    ("times", "f", "f", "g"),   # 6
    ("zero", "f", 10),          # 7
    ("tell", "one"),            # 8
    ("jump", 3),                # 9
    ("tell", "n"),              # 10
    ("jump", 3),                # 11
]

# Goes two ways by turns, 3 steps each: f is 0, 1, 0, 1 ..
BY_TURNS = [
    ("put", "one", 1),          # 0
    ("zero", "f", 4),           # 1
    ("minus", "f", "f", "one"),     # 2
    ("jump", 1),                # 3
    ("add", "f", "f", "one"),   # 4
    ("jump", 1),                # 5
]


class Folded(unittest.TestCase):
    def logs(self, rows, hot, most, log):
        before = copy.deepcopy(rows)
        found = folded(rows, hot, most)
        self.assertIs(type(found), tuple)
        self.assertEqual([type(part) for part in found], [list, int, dict, int, list])
        self.assertEqual(found[:4], plain(rows, most))
        self.assertEqual(found[4], log)
        self.assertEqual(rows, before)
        for event in found[4]:
            self.assertIs(type(event), tuple)
            if event[0] == "left":
                self.assertEqual(event[2:], plain(rows, event[1])[1:3])


class NoTraces(Folded):
    def test_an_empty_program(self):
        for most in (0, 1, 10):
            self.logs([], 1, most, [])
        self.assertEqual(folded([], 1, 5), ([], 0, {}, 0, []))

    def test_a_program_without_a_jump_back(self):
        rows = [("put", "a", 5), ("jump", 3), ("tell", "b"), ("zero", "b", 5), ("tell", "a"), ("zero", "a", 0),
                ("tell", "a")]
        for most in range(10):
            self.logs(rows, 1, most, [])
        self.assertEqual(folded(rows, 1, 10), ([5], 7, {"a": 5, "b": 0}, 5, []))

    def test_a_zero_back_that_does_not_go_is_not_counted(self):
        self.logs([("put", "a", 5), ("zero", "a", 0), ("zero", "a", 2), ("tell", "a")], 1, 10, [])

    def test_a_stop_and_0_steps(self):
        self.logs([("stop",)], 1, 10, [])
        self.logs([("jump", 0)], 1, 0, [])

    def test_a_loop_that_is_not_hot(self):
        self.logs(DOWN, 6, 100, [])
        self.logs(DOWN, 1000, 100, [])
        self.assertEqual(folded(DOWN, 6, 100), ([5, 4, 3, 2, 1], 6, {"n": 0, "one": 1}, 23, []))


class Hot(Folded):
    def test_hot_1(self):
        log = [("written", 6, 2, DOWN_TRACE), ("left", 23, 6, {"n": 0, "one": 1})]
        self.logs(DOWN, 1, 100, log)
        self.logs(DOWN, 1, 26, log)
        self.assertEqual(folded(DOWN, 1, 100), ([5, 4, 3, 2, 1], 6, {"n": 0, "one": 1}, 23, log))

    def test_hot_2_and_more(self):
        left = ("left", 23, 6, {"n": 0, "one": 1})
        self.logs(DOWN, 2, 100, [("written", 10, 2, DOWN_TRACE), left])
        self.logs(DOWN, 3, 100, [("written", 14, 2, DOWN_TRACE), left])
        self.logs(DOWN, 4, 100, [("written", 18, 2, DOWN_TRACE), left])
        # The fifth jump back comes to where the way is over.
        self.logs(DOWN, 5, 100, [("lost", 22, 2)])

    def test_each_number_of_steps(self):
        for rows in (DOWN, LOOPS, TURNING, TURNING_BACK, BY_TURNS):
            for hot in (1, 2, 3):
                for most in range(100):
                    self.assertEqual(folded(rows, hot, most)[:4], plain(rows, most))

    def test_a_round_that_would_go_beyond_most_is_not_done(self):
        self.logs(DOWN, 1, 5, [])
        # Written with the last step that is told.
        self.logs(DOWN, 1, 6, [("written", 6, 2, DOWN_TRACE)])
        for most in range(7, 26):
            self.logs(DOWN, 1, most, [("written", 6, 2, DOWN_TRACE)])

    def test_a_round_that_would_be_left_within_most_is_not_done_either(self):
        # At 22 steps a round of 4 would be left after 1, but is counted by its steps.
        for most in (23, 24, 25):
            rows = [("put", "one", 1), ("put", "n", 5)] + DOWN[2:6] + [("jump", 6)]
            log = [("written", 6, 2, DOWN_TRACE)]
            if most >= 24:
                log.append(("written", 24, 6, (6, [], 1)))
            self.logs(rows, 1, most, log)
        self.logs(rows, 1, 26, [
            ("written", 6, 2, DOWN_TRACE), ("left", 23, 6, {"n": 0, "one": 1}), ("written", 24, 6, (6, [], 1))])

    def test_a_jump_to_its_own_row(self):
        self.logs([("put", "a", 3), ("jump", 1)], 1, 50, [("written", 2, 1, (1, [], 1))])
        self.logs([("put", "a", 3), ("jump", 1)], 4, 50, [("written", 5, 1, (1, [], 1))])

    def test_a_zero_to_its_own_row_and_back(self):
        self.logs([("tell", "a"), ("zero", "a", 1)], 1, 50,
                  [("written", 2, 1, (1, [("guard", "a", True, 2, 1, ())], 1))])
        self.logs([("tell", "a"), ("zero", "a", 0)], 2, 50,
                  [("written", 4, 0, (0, [("tell", "a"), ("guard", "a", True, 2, 2, ())], 2))])

    def test_jumps_back_are_counted_at_the_place_where_they_go_to(self):
        # 0 is come to from 2 and from 3 by turns, each jump once in 5 steps; 1 is never jumped back to.
        rows = [("minus", "a", "b", "a"), ("zero", "a", 3), ("jump", 0), ("put", "b", 1), ("jump", 0)]
        # a is 0, 1, 0, 1 ..: 4 steps, then 3, by turns; the third jump back is after 11.
        trace = (0, [("minus", "a", "b", "a"), ("guard", "a", False, 3, 2, ())], 3)
        found = folded(rows, 3, 11)
        self.assertEqual(found[4], [("written", 11, 0, trace)])
        self.assertEqual(folded(rows, 3, 10)[4], [])

    def test_jumps_on_are_not_counted(self):
        rows = [("jump", 1), ("zero", "a", 2), ("tell", "a"), ("jump", 0)]
        trace = (0, [("guard", "a", True, 2, 2, ()), ("tell", 0)], 4)
        self.logs(rows, 1, 30, [("written", 4, 0, trace)])
        self.logs(rows, 3, 30, [("written", 12, 0, trace)])

    def test_what_is_written_is_shortened(self):
        rows = [
            ("put", "t", 1),            # 0
            ("add", "n", "n", "t"),
            ("put", "t", 2),
            ("zero", "m", 4),
            ("put", "t", 3),            # 4
            ("tell", "t"),
            ("jump", 0),
        ]
        trace = (0, [
            ("add", "n", "n", 1), ("guard", "m", True, 4, 4, (("t", 2),)), ("put", "t", 3), ("tell", 3),
        ], 7)
        self.logs(rows, 1, 50, [("written", 7, 0, trace)])

    def test_repairs_at_a_round_that_is_left(self):
        # Goes by 6 until n is 4; t, put for nothing ahead of the zero, is repaired as it is left.
        rows = [
            ("put", "one", 1),
            ("put", "lim", 4),
            ("put", "t", 7),            # 2
            ("add", "n", "n", "one"),
            ("minus", "d", "lim", "n"),
            ("zero", "d", 8),
            ("put", "t", 9),
            ("jump", 2),
            ("tell", "t"),              # 8
        ]
        trace = (2, [
            ("add", "n", "n", "one"), ("minus", "d", "lim", "n"), ("guard", "d", False, 8, 4, (("t", 7),)),
            ("put", "t", 9),
        ], 6)
        log = [("written", 8, 2, trace), ("left", 24, 8, {"d": 0, "lim": 4, "n": 4, "one": 1, "t": 7})]
        self.logs(rows, 1, 50, log)
        self.assertEqual(folded(rows, 1, 50)[0], [7])


class LoopsInLoops(Folded):
    def test_event_by_event(self):
        log = [
            ("written", 12, 4, INNER_TRACE),
            ("left", 21, 8, {"inner": 0, "one": 1, "outer": 3, "sum": 4}),
            ("left", 43, 8, {"inner": 0, "one": 1, "outer": 2, "sum": 8}),
            ("written", 46, 2, OUTER_TRACE),
            ("left", 69, 11, {"inner": 0, "one": 1, "outer": 0, "sum": 12}),
        ]
        self.logs(LOOPS, 2, 1000, log)
        self.assertEqual(folded(LOOPS, 2, 1000)[:4], ([4, 8, 12], 11, log[4][3], 69))
        # A whole last outer round would end at 90; with less it isn't begun.
        self.logs(LOOPS, 2, 90, log)
        self.logs(LOOPS, 2, 89, log[:4])
        # Likewise the last inner round that is left, at 42.
        self.logs(LOOPS, 2, 46, log[:4])
        self.logs(LOOPS, 2, 45, log[:2])

    def test_inner_rounds_where_an_outer_one_would_go_beyond_most(self):
        events = [event[:3] for event in folded(LOOPS, 2, 68)[4]]
        before = [("written", 12, 4), ("left", 21, 8), ("left", 43, 8), ("written", 46, 2)]
        self.assertEqual(events, before)
        # The outer round from 46 would end at 68: the inner rounds end at 64, and one more would end at 68.
        self.assertEqual([event[:3] for event in folded(LOOPS, 2, 67)[4]], before)
        rows = LOOPS[:9] + [("tell", "sum"), ("tell", "sum")] + LOOPS[9:]
        rows[2] = ("zero", "outer", 13)
        # Here each outer round has 2 steps more, so that the outer one would end at 74.
        events = [event[:3] for event in folded(rows, 2, 73)[4]]
        self.assertEqual(events, [
            ("written", 12, 4), ("left", 21, 8), ("left", 45, 8), ("written", 50, 2), ("left", 69, 8)])
        self.logs(rows, 2, 73, folded(rows, 2, 73)[4])


class TurningWays(Folded):
    def names(self, n):
        return {"f": 1, "lim": 2, "n": n, "one": 1}

    def test_a_way_that_turns_is_thrown_away_and_written_anew(self):
        # Left at 15 behind a whole round, which doesn't count; then three times at once.
        log = [
            ("written", 7, 2, FIRST_WAY), ("left", 15, 5, self.names(3)), ("left", 20, 5, self.names(4)),
            ("left", 25, 5, self.names(5)), ("left", 30, 5, self.names(6)), ("gone", 30, 2),
            ("written", 32, 2, SECOND_WAY),
        ]
        self.logs(TURNING, 1, 1000, log)
        for most, many in ((7, 1), (16, 1), (17, 2), (22, 3), (27, 4), (31, 4), (32, 7)):
            self.logs(TURNING, 1, most, log[:many])

    def test_the_count_is_0_again(self):
        # With hot 2 the first trace is written behind two rounds: the way has turned by then.
        # n is 2 at 12; the next round is of n = 3, by the second way.
        self.logs(TURNING, 2, 1000, [("written", 12, 2, SECOND_WAY)])
        later = [("put", "lim", 4) if row[0] == "put" and row[1] == "lim" else row for row in TURNING]
        found = folded(later, 3, 1000)[4]
        self.assertEqual([event[:3] for event in found[:6]], [
            ("written", 17, 2), ("left", 25, 5), ("left", 30, 5), ("left", 35, 5), ("left", 40, 5), ("gone", 40, 2)])
        # Three jumps back more: by plain steps, at 42, 47 and 52.
        self.assertEqual(found[6:], [("written", 52, 2, SECOND_WAY)])
        self.logs(later, 3, 1000, found)

    def test_a_trace_written_anew_begins_with_none_against_it(self):
        events = [event[:3] for event in folded(TURNING_BACK, 1, 1000)[4]]
        self.assertEqual(events, [
            # n = 1 by plain steps, n = 2 by a round, n = 3 to 6 are left.
            ("written", 10, 3), ("left", 22, 8), ("left", 29, 8), ("left", 36, 8), ("left", 43, 8), ("gone", 43, 3),
            # n = 7 to 10 by rounds, n = 11 to 14 are left.
            ("written", 45, 3), ("left", 78, 10), ("left", 85, 10), ("left", 92, 10), ("left", 99, 10), ("gone", 99, 3),
            ("written", 101, 3),
        ])
        self.logs(TURNING_BACK, 1, 1000, folded(TURNING_BACK, 1, 1000)[4])

    def test_a_round_behind_a_whole_one_does_not_count(self):
        # Each round of f = 1 is whole, and each one behind it is left: never the first.
        trace = (1, [("guard", "f", False, 4, 1, ()), ("minus", "f", "f", "one")], 3)
        log = [("written", 4, 1, trace)]
        log += [("left", steps, 4, {"f": 0, "one": 1}) for steps in range(8, 98, 6)]
        self.logs(BY_TURNS, 1, 98, log)
        self.assertGreater(len(log), 10)

    def test_a_round_behind_one_that_was_left_counts(self):
        # A round is left to its own start, so that the next one follows without a plain step.
        rows = [
            ("put", "one", 1),          # 0
            ("put", "lim", 3),          # 1
            ("add", "n", "n", "one"),   # 2
            ("less", "f", "n", "lim"),
            ("zero", "f", 2),           # 4
            ("tell", "n"),
            ("jump", 2),
        ]
        works = [("add", "n", "n", "one"), ("less", "f", "n", "lim")]
        first = (2, works + [("guard", "f", False, 2, 3, ()), ("tell", "n")], 5)
        second = (2, works + [("guard", "f", True, 5, 3, ())], 3)
        names = {"f": 0, "lim": 3, "one": 1}
        # The first one is left behind a whole round, and doesn't count.
        log = [("written", 7, 2, first)]
        log += [("left", 15 + 3 * more, 2, {**names, "n": 3 + more}) for more in range(4)]
        log += [("gone", 24, 2), ("written", 27, 2, second)]
        self.logs(rows, 1, 500, log)

    def test_a_round_behind_a_plain_step_counts(self):
        rows = [
            ("put", "one", 1),          # 0
            ("put", "n", 5),            # 1
            ("tell", "n"),              # 2
            ("zero", "n", 6),           # 3
            ("minus", "n", "n", "one"),     # 4
            ("jump", 3),                # 5
            ("tell", "one"), ("tell", "one"), ("tell", "one"),  # 6
            ("jump", 2),                # 9
        ]
        inner = (3, [("guard", "n", False, 6, 1, ()), ("minus", "n", "n", "one")], 3)
        outer = (2, [("tell", "n"), ("guard", "n", True, 4, 2, ())] + 3 * [("tell", "one")], 6)
        names = {"n": 0, "one": 1}
        log = [("written", 12, 3, inner)] + [("left", steps, 6, names) for steps in (19, 25, 31)]
        log.append(("written", 35, 2, outer))
        # An outer round is whole at 41; the next one would go beyond 46. By a plain step
        # the run comes to the inner trace, which is left at once for the third time.
        self.logs(rows, 3, 46, log + [("left", 43, 6, names), ("gone", 43, 3)])
        self.logs(rows, 3, 44, log)
        self.logs(rows, 3, 47, log)


class Lost(Folded):
    def looping(self, many):
        """A program with a loop of so many steps, that goes on for ever."""
        return [("tell", "a")] * (many - 1) + [("jump", 0)]

    def test_60_steps(self):
        rows = self.looping(60)
        self.logs(rows, 1, 600, [("written", 60, 0, (0, [("tell", "a")] * 59, 60))])
        self.logs(rows, 3, 600, [("written", 180, 0, (0, [("tell", "a")] * 59, 60))])

    def test_more_than_60_steps(self):
        for many in (61, 62, 99):
            self.logs(self.looping(many), 1, 1000, [("lost", many, 0)])
            self.logs(self.looping(many), 2, 1000, [("lost", 2 * many, 0)])

    def test_steps_count_and_not_rows(self):
        for many, event in ((19, ("written", 61, 1)), (20, ("lost", 64, 1))):
            # The outer way is a put, 3 steps for each inner round, a last zero and a jump.
            rows = [("put", "one", 1), ("put", "n", many), ("zero", "n", 5), ("minus", "n", "n", "one"), ("jump", 2),
                    ("jump", 1)]
            found = folded(rows, 1, 500)
            self.assertEqual(found[:4], plain(rows, 500))
            self.assertEqual([found_event[:3] for found_event in found[4] if found_event[2] == 1], [event])

    def test_a_place_that_is_lost_is_not_tried_again(self):
        # a is 0, then 1, then 0 for ever: of all ways from 1 only the second is long.
        rows = [("put", "b", 1), ("zero", "a", 65)] + [("tell", "b")] * 63
        rows += [("minus", "a", "b", "c"), ("put", "c", 1), ("jump", 1)]
        self.logs(rows, 1, 500, [("lost", 5, 1)])
        trace = (1, [("guard", "a", True, 2, 1, ()), ("minus", "a", "b", "c"), ("put", "c", 1)], 4)
        self.logs(rows, 2, 500, [("written", 72, 1, trace)])

    def test_lost_where_the_way_is_over(self):
        rows = [("put", "b", 1), ("zero", "a", 3), ("stop",), ("copy", "a", "b"), ("jump", 1)]
        self.logs(rows, 1, 50, [("lost", 4, 1)])
        # Over at once, at the place itself.
        self.logs([("jump", 2), ("stop",), ("jump", 1)], 1, 50, [("lost", 2, 1)])

    def test_a_place_with_a_trace_beside_one_that_is_lost(self):
        rows = [("put", "one", 1)] + [("tell", "n")] * 60
        rows += [("put", "n", 3), ("minus", "n", "n", "one"), ("zero", "n", 65), ("jump", 62), ("jump", 1)]
        trace = (62, [("minus", "n", "n", "one"), ("guard", "n", False, 65, 2, ())], 3)
        found = folded(rows, 1, 300)[4]
        # In each outer round n is 3, 2, 1: a plain way, a whole round, and one that is left.
        self.assertEqual(found[:3], [("written", 65, 62, trace), ("left", 70, 65, {"n": 0, "one": 1}), ("lost", 71, 1)])
        self.logs(rows, 1, 300, found)


class Refusals(unittest.TestCase):
    def refuses(self, rows, kind, at):
        for most in (0, 10):
            with self.assertRaises(kind) as caught:
                folded(rows, 1, most)
            self.assertIs(type(caught.exception), kind)
            self.assertIsInstance(caught.exception, FoldError)
            self.assertEqual(caught.exception.at, at)

    def test_no_row(self):
        for row in (("put", "a", True), ("put", "A", 1), ("tell", 5), ("guard", "a", True, 0, 1, ()), ["stop"], (),
                    None, ("copy", "a", 5), ("put", "a", 1000000), ("stop", 1)):
            self.refuses([row], NoRow, 0)
            self.refuses([("stop",), row, ("jump", 9)], NoRow, 1)

    def test_no_place(self):
        for row in (("jump", 3), ("jump", -1), ("zero", "a", 3)):
            self.refuses([("stop",), ("stop",), row], NoPlace, 2)
            self.refuses([row, ("tell", 4), ("stop",)], NoPlace, 0)


class Shortened(unittest.TestCase):
    def test_known_and_then_needed(self):
        rows = [("put", "t", 1), ("add", "n", "n", "t"), ("guard", "m", True, 4, 4, ()), ("put", "t", 3), ("tell", "t")]
        answer = [("add", "n", "n", 1), ("guard", "m", True, 4, 4, (("t", 1),)), ("put", "t", 3), ("tell", 3)]
        check_shortening(self, shortened, (0, rows, 7), (0, answer, 7))

    def test_what_is_known_is_used_up_at_once(self):
        # The copy stays with needed alone, as the tell reads it, and with known alone.
        check_shortening(self, shortened, (4, [("copy", "a", "b"), ("tell", "a"), ("copy", "a", "c")], 4),
                         (4, [("tell", "b"), ("copy", "a", "c")], 4))

    def test_an_empty_trace(self):
        check_shortening(self, shortened, (4, [], 1), (4, [], 1))


class OwnAnswers(unittest.TestCase):
    def test_changing_an_answer_changes_no_later_one(self):
        for rows in (DOWN, LOOPS, TURNING, BY_TURNS):
            before = copy.deepcopy(rows)
            for most in (23, 100):
                first = folded(rows, 1, most)
                kept = copy.deepcopy(first)
                for event in first[4]:
                    if event[0] == "written":
                        event[3][1].clear()
                    if event[0] == "left":
                        event[3].clear()
                first[0].append(77)
                first[2].clear()
                first[4].clear()
                self.assertEqual(folded(rows, 1, most), kept)
            self.assertEqual(rows, before)

    def test_no_two_answers_are_one(self):
        # The run ends where a round is left: the names are told twice.
        found = folded(DOWN, 1, 100)
        found[2]["n"] = 55
        self.assertEqual(found[4][1], ("left", 23, 6, {"n": 0, "one": 1}))
        found = folded(DOWN, 1, 100)
        found[4][1][3]["n"] = 55
        self.assertEqual(found[2], {"n": 0, "one": 1})

    def test_names_of_each_left_are_its_own(self):
        found = folded(BY_TURNS, 1, 100)
        dicts = [event[3] for event in found[4] if event[0] == "left"] + [found[2]]
        kept = copy.deepcopy(dicts)
        dicts[0]["f"] = 55
        self.assertEqual(dicts[1:], kept[1:])

    def test_rows_of_each_trace_are_their_own(self):
        found = folded(TURNING, 1, 100)
        traces = [event[3] for event in found[4] if event[0] == "written"]
        traces[0][1].clear()
        self.assertEqual(traces[1:], [SECOND_WAY])


if __name__ == "__main__":
    unittest.main()
