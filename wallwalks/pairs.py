"""Pairs of changes: their gaps, weaves and links, and the balanced blends.

All of what is told of the changes under one change is held as a dict from
their marks (module turning) to polynomials (module polynomials).
"""

from wallwalks.changes import both_changes_check, change_check, change_with
from wallwalks.ends import listed_check
from wallwalks.laurents import Laurent
from wallwalks.limits import MOST_UNDER
from wallwalks.polynomials import poly_product, poly_sum
from wallwalks.subwords import marks_under
from wallwalks.sums import Blend
from wallwalks.turning import first_word_of, is_front, marks_ahead, plain_marks

Q = (0, 1)
Q_LESS_1 = (-1, 1)


def few_under_check(change):
    """Refuse a change with more than 120 changes under it."""
    marks_under(change, MOST_UNDER)


def marks_both(bonds, lower, button):
    """The marks of the changes in a dict, and of those with the button pressed ahead."""
    return list({marks: True for held in lower for marks in (held, marks_ahead(bonds, held, button))})


def gaps_ahead(bonds, lower, button):
    """From the gaps below w, of which the button is no front button, those below button * w."""
    found = {}
    for marks in marks_both(bonds, lower, button):
        across = lower.get(marks_ahead(bonds, marks, button), ())
        if is_front(marks, button):
            found[marks] = across
        else:
            found[marks] = poly_sum(poly_product(Q_LESS_1, lower.get(marks, ())), poly_product(Q, across))
    return found


def gaps_below(change):
    """The gaps of all changes under a change with it."""
    bonds = change.table.bonds
    found = {plain_marks(change.table.size): (1,)}
    for button in change.word[::-1]:
        found = gaps_ahead(bonds, found, button)
    return found


def weaves_ahead(bonds, lower, button):
    """T(button) + T(plain) times the balanced blend of w, of which the button is no front button."""
    found = {}
    for marks in marks_both(bonds, lower, button):
        own, across = lower.get(marks, ()), lower.get(marks_ahead(bonds, marks, button), ())
        if is_front(marks, button):
            found[marks] = poly_sum(poly_product(Q, own), across)
        else:
            found[marks] = poly_sum(own, poly_product(Q, across))
    return found


def link_in(woven, further):
    """The link of two changes by their weave and by how much longer the second one is."""
    at = (further - 1) // 2
    return woven[at] if further & 1 and 0 <= at < len(woven) else 0


def weaves_below(table, word, known):
    """The weaves of all changes under that of a first word with it; what is found is kept among the known ones."""
    if word in known:
        return known[word]
    bonds = table.bonds
    found = {plain_marks(table.size): (1,)}
    if word:
        button = word[0]
        lower = weaves_below(table, word[1:], known)
        found = weaves_ahead(bonds, lower, button)
        for marks in [marks for marks in lower if is_front(marks, button)]:
            shorter = first_word_of(bonds, marks)
            linked = link_in(lower[marks], len(word) - 1 - len(shorter))
            if linked != 0:
                # So many times the balanced blend of the shorter one is too much in what has been found.
                factor = (0,) * ((len(word) - len(shorter)) // 2) + (-linked,)
                for under, share in weaves_below(table, shorter, known).items():
                    found[under] = poly_sum(found[under], poly_product(factor, share))
    known[word] = found
    return found


def gap(change, other):
    """The gap of two changes."""
    both_changes_check(change, other)
    few_under_check(other)
    return Laurent(0, gaps_below(other).get(change.marks, ()))


def weave_of(change, other):
    """The weave of two changes of one table, as a polynomial."""
    return weaves_below(change.table, other.word, {}).get(change.marks, ())


def weave(change, other):
    """The weave of two changes."""
    both_changes_check(change, other)
    few_under_check(other)
    return Laurent(0, weave_of(change, other))


def link(change, other):
    """The link of two changes."""
    both_changes_check(change, other)
    few_under_check(other)
    return link_in(weave_of(change, other), other.length - change.length)


def balanced(change):
    """The sum of T of all changes under this one, each with its weave."""
    change_check(change)
    table = change.table
    listed_check(table)
    few_under_check(change)
    found = weaves_below(table, change.word, {})
    return Blend(table, tuple([(change_with(table, marks), Laurent(0, share)) for marks, share in found.items()]))
