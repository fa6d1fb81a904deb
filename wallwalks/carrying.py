"""Rooms carried: the moves of rooms, and which rooms some change carries to one another."""

from wallwalks.changes import change_check, plain
from wallwalks.ends import is_finite_room, top_of
from wallwalks.refusals import room_check
from wallwalks.tables import TIED, part, reached, table_check
from wallwalks.turning import axis_of, opposite, turned_by


def piece_with(table, room, button):
    """The piece to which a button that is not in the room belongs in the table of the room and the button."""
    both = tuple(sorted(room + (button,)))
    at = len([s for s in room if s < button])
    return tuple([both[s] for s in reached(part(table, both).ties, at, TIED)])


def move_by(table, room, button):
    """The room to which the move by a button that is not in the room leads, and the move; None if there is none."""
    piece = piece_with(table, room, button)
    if not is_finite_room(table, piece):
        return None
    top = top_of(table, piece)
    axis = opposite(turned_by(table.bonds, axis_of(table.size, button), top.word))
    left = [s for s in room + (button,) if axis_of(table.size, s) != axis]
    without = top_of(table, tuple([s for s in piece if s != button]))
    return tuple(sorted(left)), top * without


def moves_of(table, room):
    """The triples (button, room, change) of all moves of a room, ascending by the buttons."""
    found = []
    for button in range(table.size):
        move = None if button in room else move_by(table, room, button)
        if move is not None:
            found.append((button, move[0], move[1]))
    return tuple(found)


def carriers(table, room):
    """From each room to which some change carries this one to such a change."""
    found = {room: plain(table)}
    lot = [room]
    while lot:
        further = []
        for held in lot:
            for _, led, move in moves_of(table, held):
                if led not in found:
                    found[led] = move * found[held]
                    further.append(led)
        lot = further
    return found


def table_and_room_check(table, room):
    """Refuse what is not a table and a room of it."""
    table_check(table)
    room_check(table, room)


def room_moves(table, room):
    """The triples (button, room, change) of all moves of a room, ascending by the buttons."""
    table_and_room_check(table, room)
    return moves_of(table, room)


def kin(table, room):
    """All rooms to which some change carries this one, itself too, ascending."""
    table_and_room_check(table, room)
    return tuple(sorted(list(carriers(table, room))))


def carrying(table, room, other_room):
    """A change that carries the first room to the second one; None if there is none."""
    table_and_room_check(table, room)
    room_check(table, other_room)
    return carriers(table, room).get(other_room, None)


def is_carried(change, room, other_room):
    """Whether the change carries the first room to the second one."""
    change_check(change)
    table = change.table
    room_check(table, room)
    room_check(table, other_room)
    led = [turned_by(table.bonds, axis_of(table.size, button), change.word) for button in room]
    return sorted(led) == sorted([axis_of(table.size, button) for button in other_room])
