"""Buttons left out: which changes are under which, and the sticky changes of words."""

from wallwalks.changes import (
    both_changes_check, change_check, change_of, change_with, in_order, marks_backward,
)
from wallwalks.errors import TooMany
from wallwalks.limits import MOST_LOT
from wallwalks.refusals import word_check
from wallwalks.tables import table_check
from wallwalks.turning import is_front, marks_ahead, plain_marks


def places_taken(change, other):
    """The places of the other one's first word, from the last one on, at which the first change gets shorter.

    None if it is not plain in the end: then it is not under the other one.
    """
    bonds = change.table.bonds
    marks = marks_backward(change.table, change.word)
    found = []
    for at in range(other.length - 1, -1, -1):
        button = other.word[at]
        if is_front(marks, button):
            marks = marks_ahead(bonds, marks, button)
            found.append(at)
    return found if marks == plain_marks(change.table.size) else None


def is_under(change, other):
    """Whether the first change is under the other one."""
    both_changes_check(change, other)
    return places_taken(change, other) is not None


def places(change, other):
    """Places of the other one's first word whose buttons are a least word of the first change; None if not under."""
    both_changes_check(change, other)
    found = places_taken(change, other)
    return None if found is None else tuple(found[::-1])


def shortening(change, other):
    """The pairs that are met when the last buttons of the other one's first word are taken away one after the other."""
    both_changes_check(change, other)
    table = change.table
    found = [(change, other)]
    left = change
    for at in range(other.length - 1, -1, -1):
        button = other.word[at]
        if button in left.backs:
            left = left * change_of(table, (button,))
        found.append((left, change_of(table, other.word[:at])))
    return tuple(found)


def sticky_of(table, word):
    """The sticky change of a word with any number of buttons."""
    # The marks are those of the inverse, to which a press behind is one ahead.
    marks = plain_marks(table.size)
    for button in word:
        if not is_front(marks, button):
            marks = marks_ahead(table.bonds, marks, button)
    return change_with(table, marks).inverse()


def sticky(table, word):
    """What a word makes if a press that would make the change shorter does nothing."""
    table_check(table)
    word_check(table, word)
    return sticky_of(table, word)


def sticky_product(change, other):
    """The sticky change of a word of the first change, and behind it one of the other one."""
    both_changes_check(change, other)
    return sticky_of(change.table, change.word + other.word)


def marks_under(change, most):
    """The marks of all changes under a change; TooMany is raised if there are more than so many."""
    bonds = change.table.bonds
    found = {plain_marks(change.table.size): True}
    for button in change.word[::-1]:
        for marks in list(found):
            found[marks_ahead(bonds, marks, button)] = True
        if len(found) > most:
            raise TooMany(most)
    return list(found)


def all_under(change):
    """All changes under this one, in order."""
    change_check(change)
    return in_order([change_with(change.table, marks) for marks in marks_under(change, MOST_LOT)])


def between(change, other):
    """All changes that the first one is under and that are under the other one, in order."""
    both_changes_check(change, other)
    return tuple([held for held in all_under(other) if places_taken(change, held) is not None])


def covered(change):
    """The changes under this one that are shorter by one button, in order."""
    change_check(change)
    word = change.word
    shorter = [change_of(change.table, word[:at] + word[at + 1:]) for at in range(len(word))]
    return in_order([held for held in shorter if held.length == len(word) - 1])
