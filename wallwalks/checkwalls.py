"""The claims about walls, fronts and what is under (point 56), with what the checker looks at for each."""

from wallwalks.checkforms import is_nothing, is_place_pair, is_tuple_of
from wallwalks.checkrows import (
    down_buttons, is_least_word, is_turned_down, led_vector, own_axes, own_axis, own_first_word, own_images,
    own_meeting, own_pairing, own_side, press_images, sign_of, sum_of_products, turned_once, undone_images,
)
from wallwalks.limits import MOST_SMALL
from wallwalks.refusals import is_room


def does_cross(ground, word, side):
    """Whether the inverse of the word's change turns the axis of the wall down."""
    return is_turned_down(led_vector(ground.rows, side[0], word[::-1]))


def fits_crosses(ground, certificate, parts):
    """The change of the word crosses the wall."""
    word, other, button = parts
    return is_nothing(certificate) and does_cross(ground, word, own_side(ground, other, button))


def fits_does_not_cross(ground, certificate, parts):
    """The change of the word does not cross the wall."""
    word, other, button = parts
    return is_nothing(certificate) and not does_cross(ground, word, own_side(ground, other, button))


def fits_meeting(ground, certificate, parts):
    """Both walls meet as told."""
    word, button, other_word, other_button, many = parts
    side, other = own_side(ground, word, button), own_side(ground, other_word, other_button)
    return is_nothing(certificate) and own_meeting(ground, side, other) == many


def button_side(ground, button):
    """The axis and the column of the wall of a button."""
    return (own_axis(ground, button), own_axis(ground, button))


def turned_side(ground, side, button):
    """The axis and the column to which a button turns those of a wall, which is not its own."""
    return (turned_once(ground.rows, side[0], button), turned_once(ground.columns, side[1], button))


def steps_from(ground, side):
    """For each button that meets the wall, and is not its own, the sign of the level and where it turns the wall."""
    found = []
    for button in range(ground.many):
        if own_meeting(ground, side, button_side(ground, button)) > 1:
            sign = sign_of(sum_of_products(ground.rows[button], side[0]))
            found.append((sign, turned_side(ground, side, button)[0]))
    return found


def closes(ground, side, known):
    """Whether the steps from a wall to deeper ones lead to known ones, and it is a button's or comes from a known one.

    A button that turns the wall to another one meets both or none of them.
    """
    steps = steps_from(ground, side)
    if not all([axis in known for sign, axis in steps if sign < 0]):
        return False
    return side[0] in own_axes(ground) or any([axis in known for sign, axis in steps if sign > 0])


def fits_small(ground, certificate, parts):
    """The walls are unlike, all those of buttons are among them, and steps lead to no others."""
    if not isinstance(certificate, tuple) or len(certificate) != parts[0] or len(certificate) > MOST_SMALL:
        return False
    if not all([is_place_pair(ground, pair) for pair in certificate]):
        return False
    sides = [own_side(ground, word, button) for word, button in certificate]
    known = {axis: True for axis, _ in sides}
    if len(known) != len(sides) or not all([axis in known for axis in own_axes(ground)]):
        return False
    return all([closes(ground, side, known) for side in sides])


def rest_images(ground, front, word):
    """The images of the inverse of what is left of a word's change without a change that begins it.

    None if the change of the front word does not begin it.
    """
    images = undone_images(ground, word)
    for button in own_first_word(ground, front):
        if not is_turned_down(images[button]):
            return None
        images = press_images(ground, images, (button,))
    return images


def does_begin(ground, front, word):
    """Whether the change of the first word begins that of the other one."""
    return rest_images(ground, front, word) is not None


def fits_greatest_front(ground, certificate, parts):
    """The front begins both, and what is left of both has no front button in common."""
    word, other, front = parts
    rest, other_rest = rest_images(ground, front, word), rest_images(ground, front, other)
    if not is_nothing(certificate) or rest is None or other_rest is None:
        return False
    fronts = down_buttons(other_rest)
    return not any([button in fronts for button in down_buttons(rest)])


def continues_both(ground, word, other, further):
    """Whether the changes of both words begin that of a third one."""
    return does_begin(ground, word, further) and does_begin(ground, other, further)


def fits_least_continuation(ground, certificate, parts):
    """Both words begin the third one, but not with one of its back buttons less."""
    word, other, further = parts
    if not is_nothing(certificate) or not continues_both(ground, word, other, further):
        return False
    backs = down_buttons(own_images(ground, further))
    return not any([continues_both(ground, word, other, further + (button,)) for button in backs])


def are_facing(ground, side, other):
    """Whether two walls stand face to face."""
    return own_meeting(ground, side, other) == 0 and sign_of(own_pairing(ground, side[0], other[1])) < 0


def fits_no_continuation(ground, certificate, parts):
    """The first word crosses a wall that stands face to face with one that the other word crosses."""
    if not is_tuple_of(certificate, 4):
        return False
    if not is_place_pair(ground, certificate[:2]) or not is_place_pair(ground, certificate[2:]):
        return False
    side = own_side(ground, certificate[0], certificate[1])
    other_side = own_side(ground, certificate[2], certificate[3])
    if not are_facing(ground, side, other_side):
        return False
    word, other = parts
    return does_cross(ground, word, side) and does_cross(ground, other, other_side)


def fits_under(ground, certificate, parts):
    """The buttons at some places of the other word, which is least, make the change of the first one."""
    word, other = parts
    if not is_room(len(other), certificate) or not is_least_word(ground, other):
        return False
    left = tuple([other[at] for at in certificate])
    return own_images(ground, left) == own_images(ground, word)


def fits_not_under(ground, certificate, parts):
    """By the other word's buttons, which is least, from the last one on, the first one does not get plain."""
    word, other = parts
    if not is_nothing(certificate) or not is_least_word(ground, other):
        return False
    images = own_images(ground, word)
    for button in other[::-1]:
        if is_turned_down(images[button]):
            images = press_images(ground, images, (button,))
    return images != own_axes(ground)


# The name of each claim, the forms of its parts behind the table, and what looks at a certificate for it.
SIDE_CLAIMS = (
    ("crosses", ("word", "word", "button"), fits_crosses),
    ("does not cross", ("word", "word", "button"), fits_does_not_cross),
    ("meeting", ("word", "button", "word", "button", "meeting"), fits_meeting),
    ("small walls", ("count",), fits_small),
    ("greatest front", ("word", "word", "word"), fits_greatest_front),
    ("least continuation", ("word", "word", "word"), fits_least_continuation),
    ("no continuation", ("word", "word"), fits_no_continuation),
    ("under", ("word", "word"), fits_under),
    ("not under", ("word", "word"), fits_not_under),
)
