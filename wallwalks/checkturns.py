"""The claims about positives, quotients, orders and what is carried (point 57), with what the checker looks at."""

from wallwalks.changes import Change
from wallwalks.checkforms import is_held_word, is_nothing, is_place_pair, is_tuple_of
from wallwalks.checkrows import (
    PLAIN_SWAPS, down_buttons, is_least_word, led_by_steps, own_axes, own_axis, own_first_word, own_images,
    own_opposite, press_images, undone_images,
)
from wallwalks.ends import how_many
from wallwalks.kernels import shift_by
from wallwalks.laurents import Laurent, laurent_of_text, letter
from wallwalks.limits import MOST_CHANGES, MOST_ORDER
from wallwalks.sums import Blend
from wallwalks.tables import Table

# No finite room has a longer top.
LONGEST_TOP = 66


def fits_one_positive(ground, certificate, parts):
    """Swaps lead the first word to the other one."""
    word, other = parts
    return led_by_steps(ground, word, certificate, PLAIN_SWAPS) == other


def go_on(ground, grain, further):
    """Whether each front button of what follows a grain is a back button of the grain."""
    backs = down_buttons(own_images(ground, grain))
    return all([button in backs for button in down_buttons(undone_images(ground, further))])


def are_grains(ground, value):
    """Whether a value is a tuple of least words, not empty, that are the grains of what they make."""
    if not isinstance(value, tuple) or not all([is_held_word(ground, grain) and len(grain) > 0 for grain in value]):
        return False
    if not all([is_least_word(ground, grain) for grain in value]):
        return False
    return all([go_on(ground, grain, further) for grain, further in zip(value[:-1], value[1:])])


def is_led_to_grains(ground, word, swaps, grains):
    """Whether swaps lead a word to grains, one behind the other."""
    if not are_grains(ground, grains):
        return False
    return led_by_steps(ground, word, swaps, PLAIN_SWAPS) == tuple([button for grain in grains for button in grain])


def fits_two_positives(ground, certificate, parts):
    """Swaps lead both words to their grains, and these are unlike."""
    if not is_tuple_of(certificate, 4):
        return False
    swaps, grains, other_swaps, other_grains = certificate
    word, other = parts
    if not is_led_to_grains(ground, word, swaps, grains):
        return False
    if not is_led_to_grains(ground, other, other_swaps, other_grains):
        return False
    made = [own_images(ground, grain) for grain in grains]
    return made != [own_images(ground, grain) for grain in other_grains]


def fits_one_quotient(ground, certificate, parts):
    """With words behind them, swaps lead the first dividend and divisor to the other ones."""
    if not is_tuple_of(certificate, 4):
        return False
    behind, other_behind, swaps, other_swaps = certificate
    if not is_held_word(ground, behind) or not is_held_word(ground, other_behind):
        return False
    dividend, divisor, other_dividend, other_divisor = parts
    if led_by_steps(ground, dividend + behind, swaps, PLAIN_SWAPS) != other_dividend + other_behind:
        return False
    return led_by_steps(ground, divisor + behind, other_swaps, PLAIN_SWAPS) == other_divisor + other_behind


def first_plain_power(ground, word):
    """The least power from 1 to 60 that is plain, None if there is none."""
    images = own_axes(ground)
    for power in range(1, MOST_ORDER + 1):
        images = press_images(ground, images, word)
        if images == own_axes(ground):
            return power
    return None


def fits_order(ground, certificate, parts):
    """The told power is plain, and no earlier one."""
    return is_nothing(certificate) and first_plain_power(ground, parts[0]) == parts[1]


def fits_endless_order(ground, certificate, parts):
    """None of the first powers is plain."""
    return is_nothing(certificate) and first_plain_power(ground, parts[0]) is None


def fits_mirrors(ground, certificate, parts):
    """The product of as many mirrors as told is the change, and its shift is as great."""
    word, many = parts
    images = own_images(ground, word)
    if not is_tuple_of(certificate, many) or shift_by(images) != many:
        return False
    if not all([is_place_pair(ground, pair) for pair in certificate]):
        return False
    made = own_axes(ground)
    for side, button in certificate:
        made = press_images(ground, made, side + (button,) + side[::-1])
    return made == images


def fits_carried(ground, certificate, parts):
    """A word carries the first change to the other one."""
    if not is_held_word(ground, certificate):
        return False
    word, other = parts
    return own_images(ground, certificate + word + certificate[::-1]) == own_images(ground, other)


def opposite_top(ground, room):
    """A word of the top of a room; None if the room is not opposite."""
    word = ()
    images = own_axes(ground)
    ups = list(room)
    while ups:
        if len(word) == LONGEST_TOP:
            return None
        word = word + (ups[0],)
        images = press_images(ground, images, (ups[0],))
        downs = down_buttons(images)
        ups = [button for button in room if button not in downs]
    return word if all([images[s] == own_opposite(own_axis(ground, s)) for s in room]) else None


def fits_settled(ground, certificate, parts):
    """A word carries the top of the room, which is opposite, to the change."""
    word, room = parts
    top = opposite_top(ground, room)
    return top is not None and fits_carried(ground, certificate, (top, word))


def is_fitting_term(word, other, laurent):
    """Whether a balanced blend of a first word may have this laurent at another one."""
    if other == word:
        return laurent == Laurent(0, (1,))
    return laurent.lowest >= 0 and 2 * laurent.highest < len(word) - len(other)


def fits_balanced(ground, certificate, parts):
    """The terms are those of a blend that the balanced one alone can be, and that barred is a power of q times it."""
    table = Table(ground.tied)
    if not is_nothing(certificate) or not 1 <= how_many(table) <= MOST_CHANGES:
        return False
    word = own_first_word(ground, parts[0])
    terms = [(own_first_word(ground, held), laurent_of_text(text)) for held, text in parts[1]]
    laurents = {held: laurent for held, laurent in terms}
    if len(laurents) != len(terms) or word not in laurents:
        return False
    if not all([is_fitting_term(word, held, laurent) for held, laurent in terms]):
        return False
    blend = Blend(table, tuple([(Change(table, held), laurent) for held, laurent in terms]))
    return blend.barred == blend * letter(-len(word))


# The name of each claim, the forms of its parts behind the table, and what looks at a certificate for it.
TURN_CLAIMS = (
    ("one positive", ("word", "word"), fits_one_positive),
    ("two positives", ("word", "word"), fits_two_positives),
    ("one quotient", ("word", "word", "word", "word"), fits_one_quotient),
    ("order", ("word", "order"), fits_order),
    ("endless order", ("word",), fits_endless_order),
    ("mirrors", ("word", "count"), fits_mirrors),
    ("carried", ("word", "word"), fits_carried),
    ("settled", ("word", "room"), fits_settled),
    ("balanced", ("word", "terms"), fits_balanced),
)
