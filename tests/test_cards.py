"""Point 50 and the module cards."""

import itertools
import unittest

import oracle
from oracle import CallCase, chance, odd_values, random_word
from wallwalks.cards import cards_table, change_for, deal_counts, deal_for, deal_length, is_deal_under
from wallwalks.changes import Change, plain
from wallwalks.ends import top
from wallwalks.errors import InvalidDeal, InvalidNumber, NotAChange, NotDressed
from wallwalks.subwords import is_under
from wallwalks.tables import beside, chain, named, renamed

WRONG_DEALS = [
    (0,), (1, 0, 1), (1, 2), (0, 2), (0, 0), (True, 0), (False, 1), (0, "1"), (0, None), (1, 0, -1), (0, 1, 2, 4),
    tuple(range(8)), tuple(range(1, 8)), (0, (1,)), (0, 10 ** 59),
]


def dealt(cards, word):
    """By the definition: the buttons exchange neighbours, one after the other."""
    deal = list(range(cards))
    for s in word:
        deal[s], deal[s + 1] = deal[s + 1], deal[s]
    return tuple(deal)


class CardTest(CallCase):
    def test_tables(self):
        for cards in range(2, 8):
            self.assertEqual(self.call(cards_table, cards=cards), named(f"A{cards - 1}"))
        for value in odd_values(but=(lambda v: type(v) is int and 2 <= v <= 7,)) + [0, 1, 8]:
            self.refuses(InvalidNumber(value), cards_table, cards=value)

    def test_deals_and_changes(self):
        for cards in range(2, 6):
            table = cards_table(cards)
            for deal in itertools.permutations(range(cards)):
                change = self.call(change_for, deal=deal)
                self.assertEqual(change.table, table)
                self.assertEqual(dealt(cards, change.word), deal)
                self.assertEqual(self.call(deal_for, change=change), deal)
                self.assertEqual(change.word, oracle.first_word(table.ties, change.word))
                self.assertEqual(self.call(deal_length, deal=deal), change.length)
                self.assertEqual(change.backs, tuple(s for s in range(cards - 1) if deal[s] > deal[s + 1]))
                self.assertEqual(change.fronts, tuple(s for s in range(cards - 1) if deal.index(s + 1) < deal.index(s)))

    def test_words(self):
        rng = chance(221)
        for cards in range(2, 8):
            table = cards_table(cards)
            for _ in range(40):
                word = random_word(rng, cards - 1, rng.randrange(60))
                self.assertEqual(deal_for(Change(table, word)), dealt(cards, word))
                self.assertEqual(change_for(dealt(cards, word)), Change(table, word))
            self.assertEqual(deal_for(top(table)), tuple(range(cards))[::-1])
            self.assertEqual(deal_for(plain(table)), tuple(range(cards)))
            self.assertEqual(change_for(tuple(range(cards))[::-1]), top(table))
        self.assertEqual(deal_length((6, 5, 4, 3, 2, 1, 0)), 21)

    def test_counts(self):
        rng = chance(222)
        for _ in range(60):
            deal = tuple(rng.sample(range(7), 7))
            found = self.call(deal_counts, deal=deal)
            self.assertEqual(found, tuple(tuple(sum(x >= k for x in deal[:i + 1]) for k in range(7)) for i in range(7)))
        self.assertEqual(deal_counts((2, 0, 1)), ((1, 1, 1), (2, 1, 1), (3, 2, 1)))

    def test_what_is_under(self):
        for cards in (2, 3, 4):
            every = list(itertools.permutations(range(cards)))
            for deal, other in itertools.product(every, repeat=2):
                expected = is_under(change_for(deal), change_for(other))
                self.assertIs(self.call(is_deal_under, deal=deal, other_deal=other), expected)
        rng = chance(223)
        found = []
        for cards in (5, 6, 7) * 60:
            deal, word = rng.sample(range(cards), cards), random_word(rng, cards - 1, 25)
            left = tuple(s for s in word if rng.randrange(3))
            found.append(is_deal_under(dealt(cards, left), dealt(cards, word)))
            self.assertIs(found[-1], is_under(Change(cards_table(cards), left), Change(cards_table(cards), word)))
            self.assertIs(is_deal_under(tuple(deal), dealt(cards, word)),
                          is_under(change_for(tuple(deal)), Change(cards_table(cards), word)))
        self.assertTrue(20 < sum(found) < 160)

    def test_wrong_deals(self):
        for value in odd_values() + WRONG_DEALS + [[1, 0], "10"]:
            for function in (change_for, deal_length, deal_counts):
                self.refuses(InvalidDeal(value), function, deal=value)
            self.refuses(InvalidDeal(value), is_deal_under, deal=value, other_deal=0)
            self.refuses(InvalidDeal(value), is_deal_under, deal=(1, 0), other_deal=value)
        for deal, other in (((0, 1), (0, 1, 2)), ((0, 1, 2), (1, 0)), ((6, 5, 4, 3, 2, 1, 0), (0, 1, 2, 3, 4, 5))):
            self.refuses(InvalidDeal(other), is_deal_under, deal=deal, other_deal=other)

    def test_changes_of_other_tables(self):
        for value in odd_values() + [named("A2")]:
            self.refuses(NotAChange(value), deal_for, change=value)
        for table in (named("B2"), named("~A2"), named("D4"), chain((2,)), beside(named("A2"), named("A1")),
                      renamed(named("A3"), (1, 0, 2)), chain((0,)), chain((3, 4)), named("~A5")):
            for change in (plain(table), Change(table, (1, 0))):
                self.refuses(NotDressed(change), deal_for, change=change)


if __name__ == "__main__":
    unittest.main()
