"""What the deals of cards, signed cards and ring cards have in common: how they are pressed, and compared."""

from wallwalks.changes import change_check
from wallwalks.errors import InvalidDeal, NotDressed
from wallwalks.refusals import is_whole

FEWEST = 2


def are_whole(value, most):
    """Whether a value is a tuple of 2 to so many whole numbers."""
    return isinstance(value, tuple) and FEWEST <= len(value) <= most and all([is_whole(number) for number in value])


def as_many_check(deal, other_deal):
    """Refuse another deal of another number of cards."""
    if len(deal) != len(other_deal):
        raise InvalidDeal(other_deal)


def dressed_check(change, tables):
    """Refuse a change of another table than these."""
    change_check(change)
    if change.table not in tables:
        raise NotDressed(change)


def exchanged(deal, place, other_place):
    """The deal with what stands at two places exchanged."""
    made = list(deal)
    made[place] = deal[other_place]
    made[other_place] = deal[place]
    return tuple(made)


def pressed_by(deal, word, press):
    """The deal behind a word, `press` being what leads from a deal to the one behind a button."""
    for button in word:
        deal = press(deal, button)
    return deal


def word_to(deal, lowest_back, press):
    """A word that leads to the deal: its back buttons, one taken away after the other."""
    word = []
    button = lowest_back(deal)
    while button is not None:
        word.append(button)
        deal = press(deal, button)
        button = lowest_back(deal)
    return tuple(word[::-1])


def falls(numbers):
    """How many pairs of places have a greater number at the first one."""
    places = range(len(numbers))
    return len([at for at in places for behind in places if at < behind and numbers[at] > numbers[behind]])


def counts_from(numbers, bounds):
    """For each place a row: how many of the numbers up to there are as great as each of the bounds, or greater."""
    ends = range(1, len(numbers) + 1)
    return tuple([tuple([len([x for x in numbers[:end] if x >= bound]) for bound in bounds]) for end in ends])


def are_never_above(rows, other_rows):
    """Whether no number of the first rows is above that of the other ones."""
    return all([left <= right for row, other in zip(rows, other_rows) for left, right in zip(row, other)])
