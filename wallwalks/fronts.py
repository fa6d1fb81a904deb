"""Which changes begin with which: greatest common fronts, least continuations, and the walls that bar these."""

from wallwalks.changes import (
    both_changes_check, change_check, change_of, change_with, in_order, rests_of, tables_check,
)
from wallwalks.crossings import passed_by
from wallwalks.ends import finite_check, top_of
from wallwalks.limits import MOST_WORD
from wallwalks.refusals import number_check
from wallwalks.turning import (
    downs, first_word_of, is_front, level_at, marks_ahead, marks_by, pair_product, pair_sign, plain_marks,
)
from wallwalks.walls import meeting_of


def begins(change, other):
    """Whether the first change begins the other one."""
    both_changes_check(change, other)
    marks = other.marks
    for button in change.word:
        if not is_front(marks, button):
            return False
        marks = marks_ahead(change.table.bonds, marks, button)
    return True


def front_of_both(change, other):
    """The greatest common front of two changes of one table."""
    bonds = change.table.bonds
    word = []
    marks, other_marks = change.marks, other.marks
    shared = [button for button in downs(marks) if is_front(other_marks, button)]
    while shared:
        word.append(shared[0])
        marks = marks_ahead(bonds, marks, shared[0])
        other_marks = marks_ahead(bonds, other_marks, shared[0])
        shared = [button for button in downs(marks) if is_front(other_marks, button)]
    return change_of(change.table, tuple(word))


def common_front(change, other):
    """The greatest common front."""
    both_changes_check(change, other)
    return front_of_both(change, other)


def common_end(change, other):
    """The least continuation in a finite table."""
    both_changes_check(change, other)
    finite_check(change.table)
    top = top_of(change.table, tuple(range(change.table.size)))
    return front_of_both(change * top, other * top) * top


def laid_next(table, marks, button):
    """What must be laid behind a change so that it may go on to begin with a button that is no front button of it.

    The pair of a least word of the change and the button that each common
    continuation of it and the given button has next; None if there is none.
    With a front button t of the change such a continuation begins with t and
    the given button by turns, as many as their tie tells; what the change has
    of them is taken away, and the next of them is asked of what is left.
    """
    word = []
    fronts = downs(marks)
    while fronts:
        taken, wanted = fronts[0], button
        if table.ties[taken][wanted] == 0:
            return None
        while is_front(marks, taken):
            word.append(taken)
            marks = marks_ahead(table.bonds, marks, taken)
            taken, wanted = wanted, taken
        button = taken
        fronts = downs(marks)
    return tuple(word), button


def laid(table, word, other_word, most):
    """How two least words go on to their least continuation: the pair of what is behind each of them.

    None if there is no continuation with at most so many buttons. Button by
    button the other word is taken away in front of what is laid; what is
    missing for that is laid at the end, as each continuation must go on so. If
    it would make what is laid shorter, there is no continuation.
    """
    bonds = table.bonds
    rest = marks_by(bonds, plain_marks(table.size), word)
    backward = marks_by(bonds, plain_marks(table.size), word[::-1])
    added = []
    for button in other_word:
        while not is_front(rest, button):
            further = laid_next(table, rest, button)
            if further is None or is_front(backward, further[1]) or len(word) + len(added) >= most:
                return None
            added.append(further[1])
            backward = marks_ahead(bonds, backward, further[1])
            rest = marks_by(bonds, plain_marks(table.size), further[0] + (further[1],))
        rest = marks_ahead(bonds, rest, button)
    return tuple(added), first_word_of(bonds, rest)


def least_continuation(change, other, most):
    """The least continuation if there is one of at most so many buttons; None otherwise."""
    change_check(change)
    change_check(other)
    number_check(most, 0, MOST_WORD)
    tables_check(change, other)
    if max(change.length, other.length) > most:
        return None
    further = laid(change.table, change.word, other.word, most)
    return None if further is None else change_of(change.table, change.word + further[0])


def levels_of(wall):
    """The levels of the wall's axis at all buttons."""
    return [level_at(wall.table.bonds, wall.axis_pairs, button) for button in range(wall.table.size)]


def is_below_nought(levels, column):
    """Whether the pairing of an axis, by its levels, with a column is below 0."""
    whole, gold = 0, 0
    for left, right in zip(levels, column):
        a, b = pair_product(left, right)
        whole = whole + a
        gold = gold + b
    return pair_sign(whole, gold) < 0


def facing_pair(change, other):
    """The first wall that the first change crosses, and one that the other crosses, face to face; None for none."""
    both_changes_check(change, other)
    further = passed_by(other.table, other.word)
    for wall in passed_by(change.table, change.word):
        levels = levels_of(wall)
        for facing in further:
            if is_below_nought(levels, facing.column_pairs) and meeting_of(wall, facing) == 0:
                return wall, facing
    return None


def beginnings(change):
    """All changes that begin this one, in order."""
    change_check(change)
    # What begins a change is, backward, what is left of its inverse without some of its beginning.
    rests = rests_of(change.inverse())
    return in_order([change_with(change.table, marks).inverse() for marks in rests])
