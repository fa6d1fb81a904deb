"""Cards: deals, in which each button exchanges two neighbours, stand for the changes of a chain of ties 3."""

from wallwalks.changes import change_of
from wallwalks.deals import (
    are_never_above, are_whole, as_many_check, counts_from, dressed_check, exchanged, falls, pressed_by, word_to,
)
from wallwalks.errors import InvalidDeal
from wallwalks.refusals import number_check
from wallwalks.tables import chain

MOST_CARDS = 7


def table_of(cards):
    """The cards table of so many cards."""
    return chain((3,) * (cards - 2))


def cards_table(cards):
    """The cards table of so many cards."""
    number_check(cards, 2, MOST_CARDS)
    return table_of(cards)


def deal_check(value):
    """Refuse what is no deal of 2 to 7 cards."""
    if not are_whole(value, MOST_CARDS) or sorted(value) != list(range(len(value))):
        raise InvalidDeal(value)


def press_cards(deal, button):
    """The deal behind a press of the button."""
    return exchanged(deal, button, button + 1)


def lowest_back(deal):
    """The lowest back button of a deal, None if it has none."""
    for button in range(len(deal) - 1):
        if deal[button] > deal[button + 1]:
            return button
    return None


def deal_for(change):
    """The deal to which a change of a cards table leads."""
    dressed_check(change, [table_of(cards) for cards in range(2, MOST_CARDS + 1)])
    return pressed_by(tuple(range(change.table.size + 1)), change.word, press_cards)


def change_for(deal):
    """The change that leads to the deal."""
    deal_check(deal)
    return change_of(table_of(len(deal)), word_to(deal, lowest_back, press_cards))


def deal_length(deal):
    """The length of the change that leads to the deal."""
    deal_check(deal)
    return falls(deal)


def count_rows(deal):
    """The counts of a deal."""
    return counts_from(deal, tuple(range(len(deal))))


def deal_counts(deal):
    """For each place a row: how many of the numbers up to there are 0 or more, 1 or more, and so on."""
    deal_check(deal)
    return count_rows(deal)


def is_deal_under(deal, other_deal):
    """Whether the change of the first deal is under that of the other one."""
    deal_check(deal)
    deal_check(other_deal)
    as_many_check(deal, other_deal)
    return are_never_above(count_rows(deal), count_rows(other_deal))
