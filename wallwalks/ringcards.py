"""Rings of cards: deals that go on for ever stand for the changes of a ring of ties 3, and can be juggled."""

from wallwalks.changes import change_of
from wallwalks.deals import are_never_above, are_whole, as_many_check, dressed_check, exchanged, pressed_by, word_to
from wallwalks.errors import InvalidDeal, InvalidThrows, TooFew, TooMany
from wallwalks.refusals import number_check
from wallwalks.tables import named

MOST_RING = 6
MOST_BALLS = 1000
MOST_RING_LENGTH = 400


def ring_table_of(cards):
    """The ring table of so many cards."""
    return named(f"~A{cards - 1}")


def ring_table(cards):
    """The ring table of so many cards."""
    number_check(cards, 2, MOST_RING)
    return ring_table_of(cards)


def have_unlike_rests(numbers):
    """Whether the numbers leave unlike rests by how many they are."""
    return sorted([number % len(numbers) for number in numbers]) == list(range(len(numbers)))


def ring_deal_check(value):
    """Refuse what is no ring deal of 2 to 6 numbers."""
    if not are_whole(value, MOST_RING) or not have_unlike_rests(value) or sum(value) != sum(range(len(value))):
        raise InvalidDeal(value)


def press_ring(deal, button):
    """The ring deal behind a press of the button."""
    size = len(deal)
    if button < size - 1:
        return exchanged(deal, button, button + 1)
    return (deal[-1] - size,) + deal[1:-1] + (deal[0] + size,)


def lowest_ring_back(deal):
    """The lowest back button of a ring deal, None if it has none."""
    further = deal[1:] + (deal[0] + len(deal),)
    for button, number in enumerate(deal):
        if number > further[button]:
            return button
    return None


def ring_for(change):
    """The ring deal to which a change of a ring table leads."""
    dressed_check(change, [ring_table_of(cards) for cards in range(2, MOST_RING + 1)])
    return pressed_by(tuple(range(change.table.size)), change.word, press_ring)


def ring_length_of(deal):
    """The length of the change that leads to a ring deal."""
    size = len(deal)
    return sum([abs((deal[j] - deal[i]) // size) for j in range(size) for i in range(j)])


def ring_length(deal):
    """The length of the change that leads to the ring deal."""
    ring_deal_check(deal)
    return ring_length_of(deal)


def ring_length_check(length):
    """Refuse a length above 400."""
    if length > MOST_RING_LENGTH:
        raise TooMany(length)


def ring_change(deal):
    """The change that leads to the ring deal."""
    ring_deal_check(deal)
    ring_length_check(ring_length_of(deal))
    return change_of(ring_table_of(len(deal)), word_to(deal, lowest_ring_back, press_ring))


def last_numbers(deal, place):
    """For each rest the number at the last place up to this one that leaves the rest."""
    return [number if at <= place else number - len(deal) for at, number in enumerate(deal)]


def ring_counts(deal, bounds):
    """For each place a row: how many of the numbers up to there, without end to the left, reach each of the bounds.

    By each rest, the numbers go down by as much as there are rests.
    """
    size = len(deal)
    lasts = [last_numbers(deal, place) for place in range(size)]
    return [[sum([max((last - bound) // size + 1, 0) for last in row]) for bound in bounds] for row in lasts]


def is_ring_under(deal, other_deal):
    """Whether the change of the first ring deal is under that of the other one."""
    ring_deal_check(deal)
    ring_deal_check(other_deal)
    as_many_check(deal, other_deal)
    ring_length_check(max(ring_length_of(deal), ring_length_of(other_deal)))
    # Below all last numbers both counts grow alike, as these leave all rests and have one sum; above them all are 0.
    both = deal + other_deal
    bounds = tuple(range(min(both) - len(deal), max(both) + 1))
    return are_never_above(ring_counts(deal, bounds), ring_counts(other_deal, bounds))


def throws(deal, balls):
    """How high the balls are thrown at the first moments, as many as the ring deal has numbers."""
    ring_deal_check(deal)
    number_check(balls, 0, MOST_BALLS)
    heights = tuple([number - at + balls for at, number in enumerate(deal)])
    if min(heights) < 0:
        raise TooFew(min(heights))
    return heights


def are_throws(value):
    """Whether a value is a tuple of 2 to 6 throws that come down at moments with unlike rests."""
    if not are_whole(value, MOST_RING) or min(value) < 0:
        return False
    return have_unlike_rests([at + height for at, height in enumerate(value)])


def deal_of_throws(heights):
    """The pair of the ring deal and the number of balls of these throws."""
    if not are_throws(heights):
        raise InvalidThrows(heights)
    balls = sum(heights) // len(heights)
    return tuple([height + at - balls for at, height in enumerate(heights)]), balls
