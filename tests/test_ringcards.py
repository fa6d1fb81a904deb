"""Point 52 and the module ringcards."""

import itertools
import unittest

import oracle
from oracle import CallCase, chance, odd_values, random_word
from wallwalks.changes import Change, plain
from wallwalks.errors import InvalidDeal, InvalidNumber, InvalidThrows, NotAChange, NotDressed, TooFew, TooMany
from wallwalks.ringcards import (
    deal_of_throws, is_ring_under, ring_change, ring_for, ring_length, ring_table, throws,
)
from wallwalks.subwords import is_under
from wallwalks.tables import Table, chain, named, renamed

WRONG_DEALS = [
    (0,), (0, 2), (1, 1), (0, 1, 3), (0, 1, 2, 7), (1, 2, 3), (0, 3, 0), (True, 0), (False, 1), (0, "1"), (None, 1),
    tuple(range(7)), (0, (1,)), (10 ** 59, 1), (2, -1, 3),
]


def number_at(deal, place):
    size = len(deal)
    return deal[place % size] + size * (place // size)


def dealt(size, word):
    """By the definition, each exchange done over some rounds of the deal that goes on for ever."""
    deal = tuple(range(size))
    for s in word:
        places = list(range(-size, 3 * size))
        numbers = {place: number_at(deal, place) for place in places}
        for k in range(-1, 3):
            at = s + k * size
            if at in numbers and at + 1 in numbers:
                numbers[at], numbers[at + 1] = numbers[at + 1], numbers[at]
        deal = tuple(numbers[place] for place in range(size))
    return deal


def is_under_by_counts(deal, other):
    """By the definition, with all bounds and all places from far to the left on."""
    size = len(deal)
    low, high = min(deal + other) - 2 * size, max(deal + other) + 2
    start = -2 * (high - low) - 2 * size
    for i in range(size):
        for k in range(low, high):
            mine, others = (sum(number_at(one, place) >= k for place in range(start, i + 1)) for one in (deal, other))
            if mine > others:
                return False
    return True


class RingTest(CallCase):
    def test_tables(self):
        self.assertEqual(self.call(ring_table, cards=2), chain((0,)))
        for cards in range(3, 7):
            links = {(s, (s + 1) % cards): 3 for s in range(cards)}
            self.assertEqual(self.call(ring_table, cards=cards), Table(oracle.rows_of(cards, links)))
            self.assertEqual(ring_table(cards), named(f"~A{cards - 1}"))
        for value in odd_values(but=(lambda v: type(v) is int and 2 <= v <= 6,)) + [0, 1]:
            self.refuses(InvalidNumber(value), ring_table, cards=value)

    def test_deals_and_changes(self):
        rng = chance(241)
        for cards in range(2, 7):
            table = ring_table(cards)
            for _ in range(40):
                word = random_word(rng, cards, rng.randrange(40))
                change = Change(table, word)
                deal = self.call(ring_for, change=change)
                self.assertEqual(deal, dealt(cards, word))
                self.assertEqual(self.call(ring_change, deal=deal), change)
                self.assertEqual(self.call(ring_length, deal=deal), change.length)
                backs = tuple(s for s in range(cards) if number_at(deal, s) > number_at(deal, s + 1))
                self.assertEqual(change.backs, backs)
                self.assertEqual(sum(deal), cards * (cards - 1) // 2)
            self.assertEqual(ring_for(plain(table)), tuple(range(cards)))
            self.assertEqual(ring_change(tuple(range(cards))), plain(table))

    def test_each_deal_is_reached(self):
        for deal in [(a, b, 3 - a - b) for a in range(-7, 8) for b in range(-7, 8)]:
            if sorted(x % 3 for x in deal) == [0, 1, 2]:
                change = ring_change(deal)
                self.assertEqual(ring_for(change), deal)
                self.assertEqual(dealt(3, change.word), deal)

    def test_products_inverses_and_shifted_names(self):
        rng = chance(242)
        for cards in range(2, 7):
            table = ring_table(cards)
            for _ in range(25):
                left, right = (Change(table, random_word(rng, cards, rng.randrange(20))) for _ in range(2))
                p, q = ring_for(left), ring_for(right)
                # A press exchanges what stands at places; so u * w leads to the deal of u, read at the places of w's.
                self.assertEqual(ring_for(left * right), tuple(number_at(p, place) for place in q))
                inverse = ring_for(left.inverse())
                self.assertEqual([number_at(inverse, number) for number in p], list(range(cards)))
                shifted = Change(table, tuple((s + 1) % cards for s in left.word))
                self.assertEqual(ring_for(shifted), tuple(number_at(p, place - 1) + 1 for place in range(cards)))

    def test_what_is_under(self):
        rng = chance(243)
        found = []
        for cards in (2, 3, 4, 5, 6) * 40:
            table = ring_table(cards)
            word = random_word(rng, cards, rng.randrange(16))
            left = tuple(s for s in word if rng.randrange(3))
            if rng.randrange(3) == 0:
                left = random_word(rng, cards, rng.randrange(8))
            change, other = Change(table, left), Change(table, word)
            expected = is_under(change, other)
            found.append(expected)
            self.assertIs(self.call(is_ring_under, deal=ring_for(change), other_deal=ring_for(other)), expected)
            if cards < 5:
                self.assertIs(is_under_by_counts(ring_for(change), ring_for(other)), expected)
        self.assertTrue(40 < sum(found) < 170)

    def test_what_is_under_for_all_short_changes(self):
        for cards, most in ((2, 9), (3, 5), (4, 3), (5, 2)):
            table = ring_table(cards)
            every = [Change(table, word) for layer in oracle.changes_by_length(table.ties, most) for word in layer]
            deals = [ring_for(change) for change in every]
            for (change, deal), (other, other_deal) in itertools.product(list(zip(every, deals)), repeat=2):
                self.assertIs(is_ring_under(deal, other_deal), is_under(change, other))

    def test_what_only_exact_counts_tell(self):
        """Pairs that are told wrongly when the counts are weighed, or when bounds at the ends are left out."""
        for cards, word, other in ((4, (1, 1, 1, 3, 0, 0, 1), (1, 2, 3, 0, 0, 3, 2, 1, 1, 3, 3)), (6, (3, 4), (2, 0)),
                                   (4, (1, 1, 3, 0, 2, 3), (1, 0, 3, 2, 0, 0, 3, 0, 1, 0))):
            table = ring_table(cards)
            self.assertIs(is_under(Change(table, word), Change(table, other)), False)
            self.assertIs(is_ring_under(dealt(cards, word), dealt(cards, other)), False)

    def test_what_is_under_far_out(self):
        rng = chance(244)
        for cards in (2, 3, 6):
            table = ring_table(cards)
            far = [Change(table, random_word(rng, cards, 60)) ** 2 for _ in range(6)]
            for change, other in itertools.product(far, repeat=2):
                self.assertIs(is_ring_under(ring_for(change), ring_for(other)), is_under(change, other))
        around = Change(ring_table(3), (0, 1, 2) * 20)
        self.assertIs(is_ring_under(ring_for(around), ring_for(around ** 2)), True)
        self.assertIs(is_ring_under(ring_for(around ** 2), ring_for(around)), False)

    def test_long_deals(self):
        pair = ring_table(2)
        for length in (399, 400):
            change = Change(pair, (0, 1) * 30) ** 6 * Change(pair, ((0, 1) * 20)[:length - 360])
            self.assertEqual(change.length, length)
            self.assertEqual(ring_change(ring_for(change)), change)
            self.assertIs(is_ring_under(ring_for(change), ring_for(change)), True)
        change = Change(pair, (0, 1) * 30) ** 6 * Change(pair, ((0, 1) * 21)[:41])
        deal = ring_for(change)
        self.assertEqual(ring_length(deal), 401)
        self.refuses(TooMany(401), ring_change, deal=deal)
        self.refuses(TooMany(401), is_ring_under, deal=deal, other_deal=(0, 1))
        self.refuses(TooMany(401), is_ring_under, deal=(1, 0), other_deal=deal)
        further = (3 * 10 ** 59, 1 - 3 * 10 ** 59)
        self.assertEqual(ring_length(further), 3 * 10 ** 59)
        self.refuses(TooMany(3 * 10 ** 59), ring_change, deal=further)
        self.refuses(TooMany(3 * 10 ** 59), is_ring_under, deal=deal, other_deal=further)

    def test_wrong_deals(self):
        for value in odd_values() + WRONG_DEALS + [[0, 1], "01"]:
            for function in (ring_length, ring_change):
                self.refuses(InvalidDeal(value), function, deal=value)
            self.refuses(InvalidDeal(value), is_ring_under, deal=value, other_deal=0)
            self.refuses(InvalidDeal(value), is_ring_under, deal=(1, 0), other_deal=value)
            self.refuses(InvalidDeal(value), throws, deal=value, balls=-1)
        for deal, other in (((0, 1), (0, 1, 2)), ((0, 1, 2), (1, 0))):
            self.refuses(InvalidDeal(other), is_ring_under, deal=deal, other_deal=other)

    def test_changes_of_other_tables(self):
        for value in odd_values() + [ring_table(2)]:
            self.refuses(NotAChange(value), ring_for, change=value)
        for table in (named("A3"), named("A1"), named("~C2"), chain((3,)), chain((0, 3)),
                      renamed(named("~A3"), (1, 0, 2, 3))):
            change = Change(table, (0,))
            self.refuses(NotDressed(change), ring_for, change=change)
        # In a ring of three, any renaming gives the same table.
        self.assertEqual(ring_for(plain(renamed(named("~A2"), (1, 0, 2)))), (0, 1, 2))


class ThrowTest(CallCase):
    def test_there_and_back(self):
        rng = chance(245)
        for cards in (2, 3, 4, 5, 6) * 20:
            deal = dealt(cards, random_word(rng, cards, rng.randrange(20)))
            least = max(at - number for at, number in enumerate(deal))
            for balls in (least, least + 1, 1000):
                heights = self.call(throws, deal=deal, balls=balls)
                self.assertEqual(heights, tuple(number - at + balls for at, number in enumerate(deal)))
                self.assertEqual(self.call(deal_of_throws, heights=heights), (deal, balls))
            if least > 0:
                self.refuses(TooFew(-1), throws, deal=deal, balls=least - 1)
                self.refuses(TooFew(-least), throws, deal=deal, balls=0)

    def test_all_short_throws(self):
        for size in (2, 3, 4):
            for heights in itertools.product(range(5), repeat=size):
                downs = {(at + height) % size for at, height in enumerate(heights)}
                if len(downs) < size:
                    self.refuses(InvalidThrows(heights), deal_of_throws, heights=heights)
                    continue
                deal, balls = deal_of_throws(heights)
                self.assertEqual(balls * size, sum(heights))
                self.assertEqual(throws(deal, balls), heights)
                self.assertEqual(ring_for(ring_change(deal)), deal)

    def test_great_numbers(self):
        heights = (10 ** 59 - 1, 10 ** 59 - 1)
        deal, balls = deal_of_throws(heights)
        self.assertEqual((deal, balls), ((0, 1), 10 ** 59 - 1))

    def test_wrong_throws(self):
        wrong = [(1,), (0, 1), (1, 0), (-1, 1), (2, -2), (1, 1, 1, 1, 1, 1, 1), (True, 1), (1, "1"), (1, None), (2, 1, 0), [1, 1], (3,)]
        for value in odd_values() + wrong:
            self.refuses(InvalidThrows(value), deal_of_throws, heights=value)
        self.assertEqual(deal_of_throws((1, 1, 1, 1, 1, 1)), ((0, 1, 2, 3, 4, 5), 1))

    def test_wrong_balls(self):
        for value in odd_values(but=(lambda v: type(v) is int and 0 <= v <= 1000,)) + [1001]:
            self.refuses(InvalidNumber(value), throws, deal=(0, 1), balls=value)
            self.refuses(InvalidNumber(value), throws, deal=(-1, 2), balls=value)
        self.assertEqual(throws((0, 1), 0), (0, 0))


if __name__ == "__main__":
    unittest.main()
