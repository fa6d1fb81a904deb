"""Signed cards: deals of cards that can be turned over stand for the changes of a chain of the tie 4 and ties 3."""

from wallwalks.changes import change_of
from wallwalks.deals import (
    are_never_above, are_whole, as_many_check, counts_from, dressed_check, exchanged, falls, pressed_by, word_to,
)
from wallwalks.errors import InvalidDeal
from wallwalks.refusals import number_check
from wallwalks.tables import chain

MOST_SIGNED = 6


def signed_table_of(cards):
    """The signed table of so many cards."""
    return chain((4,) + (3,) * (cards - 2))


def signed_table(cards):
    """The signed table of so many cards."""
    number_check(cards, 2, MOST_SIGNED)
    return signed_table_of(cards)


def signed_deal_check(value):
    """Refuse what is no signed deal of 2 to 6 cards."""
    if not are_whole(value, MOST_SIGNED):
        raise InvalidDeal(value)
    if sorted([abs(number) for number in value]) != list(range(1, len(value) + 1)):
        raise InvalidDeal(value)


def press_signed(deal, button):
    """The signed deal behind a press of the button."""
    if button == 0:
        return (-deal[0],) + deal[1:]
    return exchanged(deal, button - 1, button)


def lowest_signed_back(deal):
    """The lowest back button of a signed deal, None if it has none."""
    if deal[0] < 0:
        return 0
    for button in range(1, len(deal)):
        if deal[button - 1] > deal[button]:
            return button
    return None


def signed_for(change):
    """The signed deal to which a change of a signed table leads."""
    dressed_check(change, [signed_table_of(cards) for cards in range(2, MOST_SIGNED + 1)])
    return pressed_by(tuple(range(1, change.table.size + 1)), change.word, press_signed)


def signed_change(deal):
    """The change that leads to the signed deal."""
    signed_deal_check(deal)
    return change_of(signed_table_of(len(deal)), word_to(deal, lowest_signed_back, press_signed))


def signed_length(deal):
    """The length of the change that leads to the signed deal."""
    signed_deal_check(deal)
    below = [at for at, number in enumerate(deal) for other in deal[at:] if number + other < 0]
    return falls(deal) + len(below)


def spread_of(deal):
    """The opposites of the deal, the last one first, and behind them the deal."""
    return tuple([-number for number in deal[::-1]]) + deal


def spread(deal):
    """The spread of a signed deal."""
    signed_deal_check(deal)
    return spread_of(deal)


def signed_counts(deal):
    """How many of the first numbers of the spread are as great as each bound, or greater."""
    return counts_from(spread_of(deal), tuple(range(-len(deal), len(deal) + 1)))


def is_signed_under(deal, other_deal):
    """Whether the change of the first signed deal is under that of the other one."""
    signed_deal_check(deal)
    signed_deal_check(other_deal)
    as_many_check(deal, other_deal)
    return are_never_above(signed_counts(deal), signed_counts(other_deal))
