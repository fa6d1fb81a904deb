"""Rooms: how changes are split by them, gates of copies, hulls, and the shortest changes of copies."""

from wallwalks.changes import (
    Change, both_changes_check, change_check, change_of, change_with, in_order, tables_check,
)
from wallwalks.errors import InvalidChanges, TooMany
from wallwalks.limits import MOST_DEPTH, MOST_LOT
from wallwalks.refusals import number_check, room_check
from wallwalks.tables import table_check
from wallwalks.turning import NOUGHT, ONE, axis_of, downs, marks_ahead, pair_sign, plain_marks, turned_by

MOST_HELD = 30


def change_and_room_check(change, room):
    """Refuse what is not a change and a room of its table."""
    change_check(change)
    room_check(change.table, room)


def changes_check(changes):
    """Refuse what is no tuple of 1 to 30 changes of one table."""
    if not isinstance(changes, tuple) or not changes:
        raise InvalidChanges(None)
    for at, change in enumerate(changes):
        if at == MOST_HELD or not isinstance(change, Change) or change.table != changes[0].table:
            raise InvalidChanges(at)


def buttons_of(change):
    """The buttons of the least words of a change, ascending."""
    return tuple([button for button in range(change.table.size) if button in change.word])


def own_room(change):
    """The buttons of the least words of a change."""
    change_check(change)
    return buttons_of(change)


def is_inside(change, room):
    """Whether it is a change of the room."""
    change_and_room_check(change, room)
    return all([button in room for button in change.word])


def parted_front(change, room):
    """The pair (v, u) with v of the room, u without front buttons in it, and change == v * u."""
    table = change.table
    word = []
    marks = change.marks
    fronts = [button for button in downs(marks) if button in room]
    while fronts:
        word.append(fronts[0])
        marks = marks_ahead(table.bonds, marks, fronts[0])
        fronts = [button for button in downs(marks) if button in room]
    return change_of(table, tuple(word)), change_with(table, marks)


def parted_behind(change, room):
    """The pair (u, v) with v of the room, u without back buttons in it, and change == u * v."""
    inside, rest = parted_front(change.inverse(), room)
    return rest.inverse(), inside.inverse()


def split_behind(change, room):
    """The pair (u, v) with v of the room, u without back buttons in it, and change == u * v."""
    change_and_room_check(change, room)
    return parted_behind(change, room)


def split_front(change, room):
    """The pair (v, u) with v of the room, u without front buttons in it, and change == v * u."""
    change_and_room_check(change, room)
    return parted_front(change, room)


def shared_by(change, room, other_room):
    """The buttons of the room that a change without front buttons there makes, undone, buttons of the other room."""
    table = change.table
    back = change.word[::-1]
    axes = [axis_of(table.size, button) for button in other_room]
    return tuple([s for s in room if turned_by(table.bonds, axis_of(table.size, s), back) in axes])


def split_double(change, room, other_room):
    """The triple (a, d, b) with a of the room, b of the other room, d shortest, and change == a * d * b.

    The first one has no back buttons in the shared room.
    """
    change_and_room_check(change, room)
    room_check(change.table, other_room)
    front, rest = parted_front(change, room)
    shortest_one, behind = parted_behind(rest, other_room)
    first, inner = parted_behind(front, shared_by(shortest_one, room, other_room))
    return first, shortest_one, shortest_one.inverse() * inner * shortest_one * behind


def shared_room(change, room, other_room):
    """The buttons of the room that the shortest change between both rooms makes buttons of the other one."""
    change_and_room_check(change, room)
    room_check(change.table, other_room)
    rest = parted_front(change, room)[1]
    return shared_by(parted_behind(rest, other_room)[0], room, other_room)


def distance(change, other):
    """The length of the inverse of the first change times the other one."""
    both_changes_check(change, other)
    return (change.inverse() * other).length


def gate(change, other, room):
    """The change of the copy change * room that is nearest to the other change."""
    change_check(change)
    change_check(other)
    room_check(change.table, room)
    tables_check(change, other)
    return change * parted_front(change.inverse() * other, room)[0]


def hull(changes):
    """The pair (u, R) of the least copy u * R that holds all these changes, u being the shortest one in it."""
    changes_check(changes)
    back = changes[0].inverse()
    buttons = [button for change in changes for button in (back * change).word]
    room = tuple([button for button in range(back.table.size) if button in buttons])
    return parted_behind(changes[0], room)[0], room


def longer_lot(bonds, lot):
    """From the changes of one length without back buttons in a room, those that are longer by one.

    They are told by two rows of marks (module turning): the ones in which
    axes of the room count nothing, so that all changes of a copy have the
    same, lead to their own marks.
    """
    found = {}
    for copy_marks, marks in lot.items():
        for button, (whole, gold) in enumerate(copy_marks):
            if pair_sign(whole, gold) > 0:
                found[marks_ahead(bonds, copy_marks, button)] = marks_ahead(bonds, marks, button)
    return found


def shortest(table, room, length):
    """All changes of this length without back buttons in the room, in order."""
    table_check(table)
    room_check(table, room)
    number_check(length, 0, MOST_DEPTH)
    lot = {tuple([NOUGHT if s in room else ONE for s in range(table.size)]): plain_marks(table.size)}
    for _ in range(length):
        lot = longer_lot(table.bonds, lot)
        if len(lot) > MOST_LOT:
            raise TooMany(MOST_LOT)
    return in_order([change_with(table, marks) for marks in list(lot.values())])
