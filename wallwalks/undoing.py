"""Flips, which undo themselves: the opposite rooms in which they are settled, and what carries them to one another."""

from wallwalks.carrying import carriers
from wallwalks.changes import both_changes_check, change_check, change_of
from wallwalks.counts import all_rooms
from wallwalks.ends import is_finite_room, listed_check, top_of
from wallwalks.errors import NotAFlip
from wallwalks.tables import table_check
from wallwalks.turning import axis_of, images_of, is_down, opposite, spread_by, turned, turned_by
from wallwalks.turns import all_changes


def is_flip(change):
    """Whether the change is its own inverse."""
    change_check(change)
    return change == change.inverse()


def flip_check(change):
    """Refuse a change that is no flip."""
    if not is_flip(change):
        raise NotAFlip(change)


def opposite_axis(size, button):
    """The opposite of a button's axis."""
    return opposite(axis_of(size, button))


def is_opposite(table, room):
    """Whether the room is finite, and its top turns the axis of each of its buttons to the opposite."""
    if not is_finite_room(table, room):
        return False
    word = top_of(table, room).word
    size = table.size
    return all([turned_by(table.bonds, axis_of(size, s), word) == opposite_axis(size, s) for s in room])


def opposite_rooms(table):
    """All opposite rooms, fewer buttons first, those of as many ascending."""
    table_check(table)
    sized = sorted([(len(room), room) for room in all_rooms(table.size)])
    return tuple([room for _, room in sized if is_opposite(table, room)])


def lowest_shortening(images):
    """The lowest back button of a flip whose image is not the opposite of its axis; None if there is none."""
    for button, image in enumerate(images):
        if is_down(image) and image != opposite_axis(len(images), button):
            return button
    return None


def settled_by(flip):
    """A change and an opposite room whose top is carried by it to the flip.

    Carried by a back button, a flip gets shorter by 2, or the button's image is
    the opposite of its axis. Images are carried instead of words, which for a
    long flip would have to be gone through at each step.
    """
    table = flip.table
    bonds = table.bonds
    images = images_of(bonds, flip.word)
    word = []
    button = lowest_shortening(images)
    while button is not None:
        word.append(button)
        images = tuple([turned(bonds, image, button) for image in spread_by(bonds, images, button)])
        button = lowest_shortening(images)
    return change_of(table, tuple(word)), tuple([s for s, image in enumerate(images) if is_down(image)])


def settled(change):
    """A pair of a change and an opposite room whose top is carried by that change to the given flip."""
    change_check(change)
    flip_check(change)
    return settled_by(change)


def flip_carrier(change, other):
    """A change that carries the first flip to the other one; None if there is none."""
    both_changes_check(change, other)
    flip_check(change)
    flip_check(other)
    carrier_there, room = settled_by(change)
    carrier_back, other_room = settled_by(other)
    across = carriers(change.table, room).get(other_room, None)
    return None if across is None else carrier_back * across * carrier_there.inverse()


def flips(table):
    """All flips of a finite table, in order."""
    listed_check(table)
    return tuple([change for change in all_changes(table) if is_flip(change)])
