"""The claims about words, and about the kinds of tables (point 55), with what the checker looks at for each."""

from wallwalks.checkforms import (
    KIND_SIGNS, is_claim_word, is_held_word, is_lot, is_nothing, is_own_button, is_tuple_of, weights_of_lot,
)
from wallwalks.checkrows import (
    ALL_STEPS, down_buttons, is_least_word, led_by_steps, led_vector, own_axis, own_images, sign_of, sum_of_products,
)
from wallwalks.refusals import is_whole_within
from wallwalks.tables import TIED, reached


def fits_same(ground, certificate, parts):
    """Steps lead the first word to the other one."""
    word, other = parts
    return led_by_steps(ground, word, certificate, ALL_STEPS) == other


def fits_unlike(ground, certificate, parts):
    """Both words turn the axis of a button to unlike vectors."""
    if not is_own_button(ground, certificate):
        return False
    axis = own_axis(ground, certificate)
    word, other = parts
    return led_vector(ground.rows, axis, word) != led_vector(ground.rows, axis, other)


def fits_least(ground, certificate, parts):
    """At each place of the word the buttons ahead turn the axis of the button up."""
    return is_nothing(certificate) and is_least_word(ground, parts[0])


def fits_spare(ground, certificate, parts):
    """The buttons between two places turn the axis at the second one to that at the first one."""
    word = parts[0]
    if not is_tuple_of(certificate, 2) or not all([is_whole_within(at, 0, len(word) - 1) for at in certificate]):
        return False
    first, second = certificate
    if first >= second:
        return False
    axis = own_axis(ground, word[second])
    return led_vector(ground.rows, axis, word[first + 1:second]) == own_axis(ground, word[first])


def fits_length(ground, certificate, parts):
    """Steps lead the word to a least word with as many buttons as told."""
    word, length = parts
    if not is_tuple_of(certificate, 2) or not is_claim_word(ground, certificate[0]):
        return False
    least, steps = certificate
    if len(least) != length or not is_least_word(ground, least):
        return False
    return led_by_steps(ground, word, steps, ALL_STEPS) == least


def fits_finite(ground, certificate, _):
    """A word turns all axes of buttons down."""
    if not is_held_word(ground, certificate):
        return False
    return len(down_buttons(own_images(ground, certificate))) == ground.many


def level_signs(ground, lot, texts):
    """The signs of the levels at the buttons of a lot, with these numbers there; None if these are none above 0."""
    vector = weights_of_lot(ground, lot, texts)
    if vector is None:
        return None
    return [sign_of(sum_of_products(ground.rows[button], vector)) for button in lot]


def bars_ends(ground, lot, texts):
    """Whether numbers above 0 at a lot of buttons have no level above 0 there, so that the lot is not finite."""
    signs = level_signs(ground, lot, texts)
    return signs is not None and 1 not in signs


def fits_not_finite(ground, certificate, _):
    """Numbers above 0 at some buttons have no level above 0 there."""
    if not is_tuple_of(certificate, 2) or not is_lot(ground, certificate[0]):
        return False
    return bars_ends(ground, certificate[0], certificate[1])


def fits_kind(ground, certificate, parts):
    """The buttons are a piece, and numbers above 0 there have levels of the sign that the kind tells."""
    piece, kind = parts
    if reached(ground.tied, piece[0], TIED) != piece:
        return False
    signs = level_signs(ground, piece, certificate)
    return signs is not None and all([sign == KIND_SIGNS[kind] for sign in signs])


# The name of each claim, the forms of its parts behind the table, and what looks at a certificate for it.
WORD_CLAIMS = (
    ("same", ("word", "word"), fits_same),
    ("unlike", ("word", "word"), fits_unlike),
    ("least", ("word",), fits_least),
    ("spare", ("word",), fits_spare),
    ("length", ("word", "count"), fits_length),
    ("finite", (), fits_finite),
    ("not finite", (), fits_not_finite),
    ("kind", ("lot", "kind"), fits_kind),
)
