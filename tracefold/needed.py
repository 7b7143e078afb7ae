"""The second shortening: rows that put a name which is put again unread."""


def sources_of(row):
    """What a row reads, numbers too, but for the repairs of a guard."""
    if row[0] in ("tell", "guard"):
        return (row[1],)
    return row[2:]


class Behind:
    """What stands behind a place of a trace, found by going through its rows backwards."""

    def __init__(self):
        # The rows that stay, the last one first, each with the repairs that it gets.
        self.staying = []
        # By name, for those that are put again unread: the new repairs of each
        # guard ahead of that row, if the guard would show what the name holds.
        self.showing = {}

    def reads(self, sources):
        """What is read ahead of the row that puts it again has to be there."""
        for source in sources:
            self.showing.pop(source, None)

    def add_guard(self, row):
        """A guard stays; it shows what all names hold but those that it repairs."""
        repairs = row[5]
        more = []
        self.staying.append((row, more))
        own_names = [name for name, _ in repairs]
        for name in list(self.showing):
            if name not in own_names:
                self.showing[name].append(more)
        self.reads(sources_of(row))
        self.reads([source for _, source in repairs])

    def add_tell(self, row):
        """A tell stays."""
        self.staying.append((row, []))
        self.reads(sources_of(row))

    def add_putting(self, row):
        """A row that puts a name stays, or goes where it need not be done."""
        name = row[1]
        if self.is_needed(row):
            self.staying.append((row, []))
            self.showing[name] = []
            self.reads(sources_of(row))
            return
        for more in self.showing[name]:
            more.append((name, row[2]))
        # These guards repair the name now, so they show nothing that is put ahead of them.
        self.showing[name] = []

    def is_needed(self, row):
        """Whether the name may be read, or be shown by a guard that a number can't repair."""
        if row[1] not in self.showing:
            return True
        return row[0] != "put" and len(self.showing[row[1]]) > 0

    def rows_of(self):
        """The rows that stay, in their order."""
        return [with_repairs(row, more) for row, more in reversed(self.staying)]


def with_repairs(row, more):
    """The row with more repairs, found backwards, behind its own."""
    if not more:
        return row
    return row[:5] + (row[5] + tuple(reversed(more)),)


def needed(trace):
    """The trace without the rows that put a name for nothing."""
    start, rows, steps = trace
    behind = Behind()
    for row in reversed(rows):
        if row[0] == "guard":
            behind.add_guard(row)
        elif row[0] == "tell":
            behind.add_tell(row)
        else:
            behind.add_putting(row)
    return start, behind.rows_of(), steps
