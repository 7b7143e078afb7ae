"""Folding: a run that writes the ways of its hot loops down, and goes by them."""

from tracefold.known import known
from tracefold.needed import needed
from tracefold.plain import do_step, is_over
from tracefold.rows import checked, names_in
from tracefold.traces import round_of, written

MOST_TRACE_STEPS = 60

MOST_AGAINST = 3


def shortened(trace):
    """The trace without what is known ahead, and without what is not needed."""
    return needed(known(trace))


class Run:
    """A run of a program, as far as it has come."""

    def __init__(self, rows, hot):
        self.rows = rows
        self.hot = hot
        self.names = {name: 0 for name in names_in(rows)}
        self.told = []
        self.place = 0
        self.steps = 0
        self.log = []
        # By the place where they begin: the traces, and the rounds that count against them.
        self.traces = {}
        self.against = {}
        # By the place where they go to: the jumps back.
        self.counts = {}
        # Whether a round would be the first since a plain step or a round that was left.
        self.at_first = True

    def trace_within(self, most):
        """The trace of this place, if a round of it ends within so many steps; else None."""
        trace = self.traces.get(self.place)
        if trace is None or self.steps + trace[2] > most:
            return None
        return trace

    def do_plain_step(self):
        """Do the step at this place, and count it where it is a jump back."""
        row_place = self.place
        self.place = do_step(self.rows[row_place], row_place, self.names, self.told)
        self.steps += 1
        self.at_first = True
        # Only a jump or a zero that goes comes to its own row or one ahead of it.
        if self.place <= row_place:
            self.count_jump_back()

    def count_jump_back(self):
        """Count a jump back to this place, and write its trace as it comes to be hot."""
        count = self.counts.get(self.place, 0) + 1
        self.counts[self.place] = count
        # Where there is a trace, or was none to write, the count has gone past hot.
        if count == self.hot:
            self.write_trace()

    def write_trace(self):
        """Keep the trace of this place, or log that there is none."""
        trace = written(self.rows, self.place, self.names, MOST_TRACE_STEPS)
        if trace is None:
            self.log.append(("lost", self.steps, self.place))
            return
        trace = shortened(trace)
        self.traces[self.place] = trace
        self.against[self.place] = 0
        self.log.append(("written", self.steps, self.place, trace))

    def do_round(self, trace):
        """Do a round of this place's trace."""
        start = self.place
        is_whole, self.place, self.names, told, steps = round_of(trace, self.names)
        self.told.extend(told)
        self.steps += steps
        if is_whole:
            self.at_first = False
            return
        # A dict of its own, as the names may be given out at the end.
        self.log.append(("left", self.steps, self.place, dict(self.names)))
        if self.at_first:
            self.count_against(start)
        self.at_first = True

    def count_against(self, start):
        """Count a round against the trace that begins there; the third throws it away."""
        self.against[start] += 1
        if self.against[start] == MOST_AGAINST:
            del self.traces[start]
            self.counts[start] = 0
            self.log.append(("gone", self.steps, start))


def folded(rows, hot, most):
    """Run a program for at most so many steps, by traces where its loops are hot."""
    checked(rows)
    run = Run(rows, hot)
    while run.steps < most and not is_over(rows, run.place):
        trace = run.trace_within(most)
        if trace is None:
            run.do_plain_step()
        else:
            run.do_round(trace)
    return run.told, run.place, run.names, run.steps, run.log
