"""What a program is: its rows, the names in them, and the refusal of all else."""

from tracefold.errors import NoPlace, NoRow

# Numbers are the whole numbers from 0 up to, and without, this one.
NUMBERS = 1000000

MOST_LETTERS = 8

# What stands behind the word of each kind of row.
SHAPES = {
    "put": ("name", "number"),
    "copy": ("name", "name"),
    "add": ("name", "name", "name"),
    "minus": ("name", "name", "name"),
    "times": ("name", "name", "name"),
    "less": ("name", "name", "name"),
    "tell": ("name",),
    "jump": ("place",),
    "zero": ("name", "place"),
    "stop": (),
}


def is_name(part):
    """Whether this is a text of 1 to 8 small letters a to z."""
    if not isinstance(part, str) or not 1 <= len(part) <= MOST_LETTERS:
        return False
    return all("a" <= letter <= "z" for letter in part)


def is_whole(part):
    """Whether this is a whole number; True and False are none."""
    return isinstance(part, int) and not isinstance(part, bool)


def is_number(part):
    """Whether this is a number that a name can hold."""
    return is_whole(part) and 0 <= part < NUMBERS


def is_part(part, kind):
    """Whether a part of a row is of the kind that its shape tells."""
    if kind == "name":
        return is_name(part)
    if kind == "number":
        return is_number(part)
    return is_whole(part)


def is_row(row):
    """Whether this is one of the tuples, wherever its place may be."""
    # The word is asked for its kind first, as a list could not be looked up.
    if not isinstance(row, tuple) or not row or not isinstance(row[0], str):
        return False
    shape = SHAPES.get(row[0])
    if shape is None or len(row) != len(shape) + 1:
        return False
    return all(is_part(part, kind) for part, kind in zip(row[1:], shape))


def has_its_place(row, many):
    """Whether the place of a row, if it has one, is a number of one of so many rows."""
    if row[0] not in ("jump", "zero"):
        return True
    return 0 <= row[-1] < many


def checked(rows):
    """Refuse what is no program, by its first row that is wrong."""
    for at, row in enumerate(rows):
        if not is_row(row):
            raise NoRow(at)
        if not has_its_place(row, len(rows)):
            raise NoPlace(at)


def names_of(row):
    """The names in a row, as they stand."""
    return [part for part, kind in zip(row[1:], SHAPES[row[0]]) if kind == "name"]


def names_in(rows):
    """All names of a program, sorted, each once."""
    return sorted({name for row in rows for name in names_of(row)})
