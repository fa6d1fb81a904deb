"""Which values stand where in claims and certificates, by their forms alone."""

from wallwalks.checkrows import MOST_CERTIFIED
from wallwalks.goldens import parts_of_text
from wallwalks.laurents import laurent_of_text
from wallwalks.limits import MOST_ORDER, MOST_UNDER, MOST_WORD
from wallwalks.refusals import is_room, is_whole, is_whole_within, is_word
from wallwalks.turning import NOUGHT, pair_sign

MOST_TOP = 66

# The sign of the levels by which a piece shows its kind.
KIND_SIGNS = {"finite": 1, "flat": 0, "wild": -1}


def is_nothing(value):
    """Whether a value is the empty tuple, the certificate where none is needed."""
    return isinstance(value, tuple) and len(value) == 0


def is_tuple_of(value, many):
    """Whether a value is a tuple of so many elements."""
    return isinstance(value, tuple) and len(value) == many


def is_claim_word(ground, value):
    """Whether a value is a word of a claim."""
    return is_word(ground.many, value, MOST_WORD)


def is_top_word(ground, value):
    """Whether a value is a word of a claim about a top."""
    return is_word(ground.many, value, MOST_TOP)


def is_held_word(ground, value):
    """Whether a value is a word of a certificate."""
    return is_word(ground.many, value, MOST_CERTIFIED)


def is_own_button(ground, value):
    """Whether a value is a button."""
    return is_whole_within(value, 0, ground.many - 1)


def is_own_room(ground, value):
    """Whether a value is a room."""
    return is_room(ground.many, value)


def is_lot(ground, value):
    """Whether a value is an ascending tuple of one button or more."""
    return is_room(ground.many, value) and len(value) > 0


def is_count(_, value):
    """Whether a value is a whole number from 0 on."""
    return is_whole(value) and value >= 0


def is_meeting(_, value):
    """Whether a value is a whole number that tells how walls meet."""
    return is_whole_within(value, 0, 6)


def is_order(_, value):
    """Whether a value is a whole number from 1 to 60."""
    return is_whole_within(value, 1, MOST_ORDER)


def is_kind(_, value):
    """Whether a value is the word for a kind of pieces."""
    return isinstance(value, str) and value in KIND_SIGNS


def is_term(ground, value):
    """Whether a value is a pair of a word and the text of a laurent other than 0."""
    if not is_tuple_of(value, 2) or not is_claim_word(ground, value[0]):
        return False
    laurent = laurent_of_text(value[1])
    return laurent is not None and bool(laurent)


def are_terms(ground, value):
    """Whether a value is a tuple of at most 120 such pairs."""
    return isinstance(value, tuple) and len(value) <= MOST_UNDER and all([is_term(ground, term) for term in value])


FORMS = {
    "word": is_claim_word,
    "top word": is_top_word,
    "button": is_own_button,
    "room": is_own_room,
    "lot": is_lot,
    "count": is_count,
    "meeting": is_meeting,
    "order": is_order,
    "kind": is_kind,
    "terms": are_terms,
}


def are_parts(ground, forms, parts):
    """Whether the parts of a claim behind its table have these forms."""
    if len(parts) != len(forms):
        return False
    for form, part in zip(forms, parts):
        fits = FORMS[form]
        if not fits(ground, part):
            return False
    return True


def is_place_pair(ground, value):
    """Whether a value is a pair of a word and a button, which mean a wall."""
    return is_tuple_of(value, 2) and is_held_word(ground, value[0]) and is_own_button(ground, value[1])


def above_nought(text):
    """The golden number with this text, as a pair; None if the value is no text of one above 0."""
    pair = parts_of_text(text)
    return pair if pair is not None and pair_sign(pair[0], pair[1]) > 0 else None


def weights_of_lot(ground, lot, texts):
    """The vector with these numbers at the buttons of a lot, and 0 elsewhere.

    None if the value is no tuple of as many texts of golden numbers above 0.
    """
    if not is_tuple_of(texts, len(lot)):
        return None
    numbers = [above_nought(text) for text in texts]
    if None in numbers:
        return None
    held = {button: number for button, number in zip(lot, numbers)}
    return tuple([held.get(button, NOUGHT) for button in range(ground.many)])
