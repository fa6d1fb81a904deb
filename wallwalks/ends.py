"""Which tables and rooms are finite, flat or wild, and the longest changes of the finite ones."""

from wallwalks.changes import change_with
from wallwalks.errors import AllFinite, NotFinite, TooMany
from wallwalks.goldens import golden_vector
from wallwalks.limits import MOST_CHANGES
from wallwalks.refusals import room_check
from wallwalks.tables import name_of, part, table_check
from wallwalks.turning import ONE, level_at, marks_ahead, pair_sign, plain_marks, turned

WILD = "wild"

DEGREES = {
    "A1": (2,),
    "A2": (2, 3),
    "A3": (2, 3, 4),
    "A4": (2, 3, 4, 5),
    "A5": (2, 3, 4, 5, 6),
    "A6": (2, 3, 4, 5, 6, 7),
    "B2": (2, 4),
    "B3": (2, 4, 6),
    "B4": (2, 4, 6, 8),
    "B5": (2, 4, 6, 8, 10),
    "B6": (2, 4, 6, 8, 10, 12),
    "D4": (2, 4, 4, 6),
    "D5": (2, 4, 5, 6, 8),
    "D6": (2, 4, 6, 6, 8, 10),
    "E6": (2, 5, 6, 8, 9, 12),
    "F4": (2, 6, 8, 12),
    "G2": (2, 6),
    "H2": (2, 5),
    "H3": (2, 6, 10),
    "H4": (2, 12, 20, 30),
}


def piece_names(table):
    """The names of the pieces in order, `wild` for a wild piece."""
    found = [name_of(part(table, piece)) for piece in table.pieces]
    return tuple([WILD if name is None else name for name in found])


def kind_of(name):
    """The kind of a piece with this name."""
    if name in DEGREES:
        return "finite"
    return WILD if name == WILD else "flat"


def names(table):
    """The names of the pieces in order, `wild` for a wild piece."""
    table_check(table)
    return piece_names(table)


def kinds(table):
    """The kinds of the pieces in order."""
    table_check(table)
    return tuple([kind_of(name) for name in piece_names(table)])


def is_finite(table):
    """Whether all pieces are finite."""
    table_check(table)
    return all([name in DEGREES for name in piece_names(table)])


def finite_check(table):
    """Refuse a table that is not finite."""
    if not is_finite(table):
        raise NotFinite()


def is_finite_room(table, room):
    """Whether all pieces of the table of the room are finite."""
    table_check(table)
    room_check(table, room)
    return not room or is_finite(part(table, room))


def level_sign(table, vector, button):
    """The sign of the level of a vector of pairs at a button."""
    whole, gold = level_at(table.bonds, vector, button)
    return pair_sign(whole, gold)


def one_more_at(vector, button):
    """The vector with 1 more at the button."""
    whole, gold = vector[button]
    return vector[:button] + ((whole + 1, gold),) + vector[button + 1:]


def grown(table, vector):
    """At each button three times the number there, less the level.

    Done again and again on a piece, this leads ever closer to the multiples
    of one vector above 0, whose levels all have one sign: above 0 if the
    piece is finite, below 0 if it is wild.
    """
    turns = [turned(table.bonds, vector, button)[button] for button in range(table.size)]
    return tuple([(x + 2 * a, y + 2 * b) for (x, y), (a, b) in zip(turns, vector)])


def lowest_below(table, vector, piece):
    """The lowest button of the piece at which the level is below 0; None if there is none."""
    for button in piece:
        if level_sign(table, vector, button) < 0:
            return button
    return None


def weighing_of(table, piece, kind):
    """A vector that weighs this piece as its kind tells; what it has elsewhere does not count."""
    vector = (ONE,) * table.size
    if kind == "flat":
        # No number gets above that of a vector of whole numbers with all levels 0, so this ends there.
        low = lowest_below(table, vector, piece)
        while low is not None:
            vector = one_more_at(vector, low)
            low = lowest_below(table, vector, piece)
        return vector
    sign = 1 if kind == "finite" else -1
    while any([level_sign(table, vector, button) != sign for button in piece]):
        vector = grown(table, vector)
    return vector


def weighing(table):
    """Golden numbers above 0 whose levels have, piece by piece, the sign that the kind tells."""
    table_check(table)
    numbers = {}
    for piece, name in zip(table.pieces, piece_names(table)):
        vector = weighing_of(table, piece, kind_of(name))
        for button in piece:
            numbers[button] = vector[button]
    return golden_vector([numbers[button] for button in range(table.size)])


def top_of(table, room):
    """The longest change of a finite room."""
    marks = plain_marks(table.size)
    ups = list(room)
    while ups:
        marks = marks_ahead(table.bonds, marks, ups[0])
        ups = [button for button in room if pair_sign(marks[button][0], marks[button][1]) > 0]
    return change_with(table, marks)


def top(table):
    """The longest change of a finite table."""
    finite_check(table)
    return top_of(table, tuple(range(table.size)))


def room_top(table, room):
    """The longest change of a finite room."""
    if not is_finite_room(table, room):
        raise NotFinite()
    return top_of(table, room)


def degrees_of(table):
    """The degrees of a finite table, ascending."""
    return tuple(sorted([degree for name in piece_names(table) for degree in DEGREES[name]]))


def degrees(table):
    """The degrees of a finite table, ascending."""
    finite_check(table)
    return degrees_of(table)


def how_many(table):
    """How many changes there are, 0 if they do not end."""
    if not is_finite(table):
        return 0
    many = 1
    for degree in degrees_of(table):
        many = many * degree
    return many


def listed_check(table):
    """Refuse a table that is not finite, or has more than 400 changes."""
    finite_check(table)
    many = how_many(table)
    if many > MOST_CHANGES:
        raise TooMany(many)


def climbing(table):
    """The buttons of the first piece that is not finite, ascending."""
    table_check(table)
    for piece, name in zip(table.pieces, piece_names(table)):
        if name not in DEGREES:
            return piece
    raise AllFinite()
