"""The claims about rooms that are carried, and about tops (point 56), with what the checker looks at for each."""

from wallwalks.checkforms import is_held_word, is_lot, is_nothing, is_own_room, is_tuple_of
from wallwalks.checkrows import down_buttons, own_axis, own_images, own_opposite
from wallwalks.checkwords import bars_ends
from wallwalks.tables import APART


def fits_rooms_carried(ground, certificate, parts):
    """A word turns the axes of the first room to those of the other one."""
    if not is_held_word(ground, certificate):
        return False
    room, other = parts
    images = own_images(ground, certificate)
    return sorted([images[button] for button in room]) == sorted([own_axis(ground, button) for button in other])


def piece_around(ground, room, button):
    """The piece of a button that is not in the room, in the table of the room and the button."""
    piece = [button]
    at = 0
    while at < len(piece):
        row = ground.tied[piece[at]]
        piece = piece + [s for s in room if s not in piece and row[s] != APART]
        at += 1
    return piece


def turns_all_down(images, buttons):
    """Whether all these buttons have images that are down."""
    downs = down_buttons(images)
    return all([button in downs for button in buttons])


def move_leads(ground, room, button, word, rooms):
    """Whether a word makes the top of the button's piece, and the move so made leads to one of the rooms."""
    piece = piece_around(ground, room, button)
    if not is_held_word(ground, word) or not all([s in piece for s in word]):
        return False
    images = own_images(ground, word)
    if not turns_all_down(images, piece):
        return False
    axis = own_opposite(images[button])
    return tuple(sorted([s for s in room + (button,) if own_axis(ground, s) != axis])) in rooms


def piece_is_endless(ground, room, button, lot, texts):
    """Whether numbers at a lot of buttons show that the button's piece is not finite."""
    if not is_lot(ground, lot):
        return False
    piece = piece_around(ground, room, button)
    return all([s in piece for s in lot]) and bars_ends(ground, lot, texts)


def row_fits(ground, room, button, row, rooms):
    """Whether a row tells, for a button that is not in the room, that no move by it leads out of the rooms."""
    if not isinstance(row, tuple) or not row or not isinstance(row[0], str):
        return False
    if row[0] == "move" and len(row) == 2:
        return move_leads(ground, room, button, row[1], rooms)
    return row[0] == "endless" and len(row) == 3 and piece_is_endless(ground, room, button, row[1], row[2])


def rows_fit(ground, room, rows, rooms):
    """Whether rows tell, for all buttons that are not in the room, that no move leads out of the rooms."""
    others = [button for button in range(ground.many) if button not in room]
    if not is_tuple_of(rows, len(others)):
        return False
    return all([row_fits(ground, room, button, row, rooms) for button, row in zip(others, rows)])


def fits_rooms_not_carried(ground, certificate, parts):
    """No move leads out of some rooms, the first room being one of them, the other one none."""
    if not isinstance(certificate, tuple):
        return False
    if not all([is_tuple_of(pair, 2) and is_own_room(ground, pair[0]) for pair in certificate]):
        return False
    room, other = parts
    rooms = {held: True for held, _ in certificate}
    if len(rooms) != len(certificate) or room not in rooms or other in rooms:
        return False
    return all([rows_fit(ground, held, rows, rooms) for held, rows in certificate])


def fits_top(ground, certificate, parts):
    """A word of buttons of the room turns all their axes down."""
    room, word = parts
    if not is_nothing(certificate) or not all([button in room for button in word]):
        return False
    return turns_all_down(own_images(ground, word), room)


# The name of each claim, the forms of its parts behind the table, and what looks at a certificate for it.
ROOM_CLAIMS = (
    ("rooms carried", ("room", "room"), fits_rooms_carried),
    ("rooms not carried", ("room", "room"), fits_rooms_not_carried),
    ("top", ("room", "top word"), fits_top),
)
