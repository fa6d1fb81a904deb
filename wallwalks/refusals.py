"""Looks at plain values that are passed, and the errors for what is wrong with them."""

from wallwalks.errors import InvalidButton, InvalidNumber, InvalidRoom, InvalidWord
from wallwalks.limits import MOST_WORD


def is_whole(value):
    """Whether a value is a whole number; True and False are none."""
    return isinstance(value, int) and not isinstance(value, bool)


def is_whole_within(value, least, most):
    """Whether a value is a whole number from the least to the most."""
    return is_whole(value) and least <= value <= most


def is_whole_text(text):
    """Whether a string is the digits of a whole number, without needless noughts and without -0."""
    digits = text[1:] if text.startswith("-") else text
    if not (digits.isascii() and digits.isdigit()):
        return False
    return text == "0" or not digits.startswith("0")


def number_check(value, least, most):
    """Refuse what is no whole number from the least to the most."""
    if not is_whole_within(value, least, most):
        raise InvalidNumber(value)


def button_check(table, value):
    """Refuse what is no button of the table."""
    if not is_whole_within(value, 0, table.size - 1):
        raise InvalidButton(value)


def is_word(size, value, most):
    """Whether a value is a tuple of at most so many buttons of a table with so many buttons."""
    if not isinstance(value, tuple) or len(value) > most:
        return False
    return all([is_whole_within(button, 0, size - 1) for button in value])


def room_fault(size, room):
    """The index of the first element that is no button or not above the one ahead of it; None if there is none."""
    least = 0
    for at, button in enumerate(room):
        if not is_whole_within(button, least, size - 1):
            return at
        least = button + 1
    return None


def is_room(size, value):
    """Whether a value is an ascending tuple of buttons of a table with so many."""
    return isinstance(value, tuple) and room_fault(size, value) is None


def word_check(table, word):
    """Refuse what is no word of at most 60 buttons of the table."""
    if not isinstance(word, tuple):
        raise InvalidWord(None)
    for at, button in enumerate(word[:MOST_WORD]):
        if not is_whole_within(button, 0, table.size - 1):
            raise InvalidWord(at)
    if len(word) > MOST_WORD:
        raise InvalidWord(MOST_WORD)


def room_check(table, room):
    """Refuse what is no ascending tuple of buttons of the table."""
    if not isinstance(room, tuple):
        raise InvalidRoom(None)
    fault = room_fault(table.size, room)
    if fault is not None:
        raise InvalidRoom(fault)
