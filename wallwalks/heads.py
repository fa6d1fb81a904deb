"""How positives are held: by the least words of their grains, called heads here.

All words of a head make one change, and each head has as much of the positive
as can be: no front button of a head could be laid behind the one ahead of it
such that this stays least. A positive has no heads exactly if it is empty.
"""

from wallwalks.fronts import laid
from wallwalks.turning import downs, first_word_of, is_front, marks_ahead, marks_by, plain_marks


def moved(table, word, further):
    """A least word with as much of another one moved behind it as can be, and what is left of that."""
    bonds = table.bonds
    backward = marks_by(bonds, plain_marks(table.size), word[::-1])
    marks = marks_by(bonds, plain_marks(table.size), further)
    free = [button for button in downs(marks) if not is_front(backward, button)]
    if not free:
        return word, further
    while free:
        word = word + (free[0],)
        backward = marks_ahead(bonds, backward, free[0])
        marks = marks_ahead(bonds, marks, free[0])
        free = [button for button in downs(marks) if not is_front(backward, button)]
    return word, first_word_of(bonds, marks)


def heads_ahead(table, word, heads):
    """The heads of the positive of a least word, and behind it the one of the heads."""
    found = ()
    at = 0
    while word and at < len(heads):
        head, rest = moved(table, word, heads[at])
        if len(head) == len(word):
            # What follows was as far in front as can be already.
            return found + (word,) + heads[at:]
        found = found + (head,)
        word = rest
        at += 1
    return found + ((word,) if word else ()) + heads[at:]


def heads_of_product(table, words, heads):
    """The heads of the positive of least words, one behind the other, and behind them the one of the heads."""
    for word in reversed(list(words)):
        heads = heads_ahead(table, word, heads)
    return heads


def heads_of(table, word):
    """The heads of the positive of a word with any number of buttons."""
    return heads_of_product(table, [(button,) for button in word], ())


def turned_round(table, heads):
    """The heads of a positive backwards: its backs are the fronts of this one, backwards."""
    return heads_of_product(table, [head[::-1] for head in heads[::-1]], ())


def fronts_of(table, heads):
    """The front buttons of the positive of the heads, ascending."""
    return downs(marks_by(table.bonds, plain_marks(table.size), heads[0])) if heads else ()


def without_button(table, heads, button):
    """The heads of what is left of a positive without one of its front buttons."""
    marks = marks_by(table.bonds, plain_marks(table.size), heads[0])
    rest = first_word_of(table.bonds, marks_ahead(table.bonds, marks, button))
    return heads_ahead(table, rest, heads[1:])


def without_word(table, heads, word):
    """The heads of what is left of a positive without a word in front; None if this is no front of it."""
    for button in word:
        if button not in fronts_of(table, heads):
            return None
        heads = without_button(table, heads, button)
    return heads


def first_word_by(table, heads):
    """The first word of the positive of the heads."""
    word = []
    while heads:
        lowest = fronts_of(table, heads)[0]
        word.append(lowest)
        heads = without_button(table, heads, lowest)
    return tuple(word)


def shared_fronts(table, heads, others):
    """The front buttons that two positives have in common, ascending."""
    held = fronts_of(table, others)
    return [button for button in fronts_of(table, heads) if button in held]


def shared_word(table, heads, others):
    """A word of the greatest common front of two positives."""
    word = []
    shared = shared_fronts(table, heads, others)
    while shared:
        word.append(shared[0])
        heads = without_button(table, heads, shared[0])
        others = without_button(table, others, shared[0])
        shared = shared_fronts(table, heads, others)
    return tuple(word)


def across(table, words, word, most):
    """How least words, one behind the other, and another one go on to their least common continuation.

    The pair of what is behind the words, and of the words that are behind the
    other one; None if there is no such continuation with at most so many
    buttons. Step by step the other one passes the words.
    """
    passed = []
    for held in words:
        both = laid(table, held, word, most) if len(held) <= most else None
        if both is None:
            return None
        word = both[0]
        passed.append(both[1])
        most = most - len(held)
    return (word, [held for held in passed if held]) if len(word) <= most else None


def continued(table, heads, others, most):
    """How two positives go on to their least common continuation.

    The pair of the words that are behind the first one, and of those that are
    behind the other one; None if there is none with at most so many buttons.
    """
    behind = []
    words = list(heads)
    left = most
    for word in others:
        passed = across(table, words, word, left)
        if passed is None:
            return None
        behind.append(passed[0])
        words = passed[1]
        left = left - len(word)
    return (behind, words) if sum([len(word) for word in words]) <= left else None
