"""Point 51 and the module signedcards."""

import itertools
import unittest

import oracle
from oracle import CallCase, chance, odd_values, random_word
from wallwalks.changes import Change, plain
from wallwalks.ends import top
from wallwalks.errors import InvalidDeal, InvalidNumber, NotAChange, NotDressed
from wallwalks.signedcards import is_signed_under, signed_change, signed_for, signed_length, signed_table, spread
from wallwalks.subwords import is_under
from wallwalks.tables import beside, chain, named

WRONG_DEALS = [
    (1,), (0, 1), (1, 1), (1, -1), (1, 3), (2, 3), (True, 2), (-2, "1"), (1, None), (1, 2, 2), tuple(range(1, 8)),
    (0, 1, 2), ((1,), 2), (1, 2, 10 ** 59),
]


def dealt(cards, word):
    """By the definition: 0 turns the first card over, the others exchange neighbours."""
    deal = list(range(1, cards + 1))
    for s in word:
        if s == 0:
            deal[0] = -deal[0]
        else:
            deal[s - 1], deal[s] = deal[s], deal[s - 1]
    return tuple(deal)


def all_deals(cards):
    for sizes in itertools.permutations(range(1, cards + 1)):
        for signs in itertools.product((1, -1), repeat=cards):
            yield tuple(a * b for a, b in zip(sizes, signs))


class SignedTest(CallCase):
    def test_tables(self):
        for cards in range(2, 7):
            self.assertEqual(self.call(signed_table, cards=cards), chain((4,) + (3,) * (cards - 2)))
        for value in odd_values(but=(lambda v: type(v) is int and 2 <= v <= 6,)) + [0, 1]:
            self.refuses(InvalidNumber(value), signed_table, cards=value)

    def test_deals_and_changes(self):
        for cards in (2, 3, 4):
            table = signed_table(cards)
            for deal in all_deals(cards):
                change = self.call(signed_change, deal=deal)
                self.assertEqual(change.table, table)
                self.assertEqual(dealt(cards, change.word), deal)
                self.assertEqual(self.call(signed_for, change=change), deal)
                if cards < 4:
                    self.assertEqual(change.word, oracle.first_word(table.ties, change.word))
                self.assertEqual(self.call(signed_length, deal=deal), change.length)
                backs = ((0,) if deal[0] < 0 else ()) + tuple(s for s in range(1, cards) if deal[s - 1] > deal[s])
                self.assertEqual(change.backs, backs)

    def test_words(self):
        rng = chance(231)
        for cards in range(2, 7):
            table = signed_table(cards)
            for _ in range(30):
                word = random_word(rng, cards, rng.randrange(60))
                self.assertEqual(signed_for(Change(table, word)), dealt(cards, word))
                self.assertEqual(signed_change(dealt(cards, word)), Change(table, word))
                self.assertEqual(signed_length(dealt(cards, word)), Change(table, word).length)
            self.assertEqual(signed_for(top(table)), tuple(range(-1, -cards - 1, -1)))
            self.assertEqual(signed_for(plain(table)), tuple(range(1, cards + 1)))
        self.assertEqual(signed_length((-1, -2, -3, -4, -5, -6)), 36)

    def test_spreads(self):
        for deal in all_deals(3):
            found = self.call(spread, deal=deal)
            self.assertEqual(found, (-deal[2], -deal[1], -deal[0], deal[0], deal[1], deal[2]))

    def test_what_is_under(self):
        for cards in (2, 3):
            for deal, other in itertools.product(all_deals(cards), repeat=2):
                expected = is_under(signed_change(deal), signed_change(other))
                self.assertIs(self.call(is_signed_under, deal=deal, other_deal=other), expected)
        rng = chance(232)
        found = []
        for cards in (4, 5, 6) * 60:
            word = random_word(rng, cards, 30)
            left = tuple(s for s in word if rng.randrange(3))
            found.append(is_signed_under(dealt(cards, left), dealt(cards, word)))
            table = signed_table(cards)
            self.assertIs(found[-1], is_under(Change(table, left), Change(table, word)))
            self.assertIs(is_signed_under(dealt(cards, word), dealt(cards, left)),
                          is_under(Change(table, word), Change(table, left)))
        self.assertTrue(20 < sum(found) < 160)

    def test_wrong_deals(self):
        for value in odd_values() + WRONG_DEALS + [[1, 2], "12"]:
            for function in (signed_change, signed_length, spread):
                self.refuses(InvalidDeal(value), function, deal=value)
            self.refuses(InvalidDeal(value), is_signed_under, deal=value, other_deal=0)
            self.refuses(InvalidDeal(value), is_signed_under, deal=(1, 2), other_deal=value)
        for deal, other in (((1, 2), (1, 2, 3)), ((1, 2, 3), (-2, 1)), ((6, 5, 4, 3, 2, 1), (1, 2, 3, 4, 5))):
            self.refuses(InvalidDeal(other), is_signed_under, deal=deal, other_deal=other)

    def test_changes_of_other_tables(self):
        for value in odd_values() + [signed_table(2)]:
            self.refuses(NotAChange(value), signed_for, change=value)
        # The named tables have their tie 4 at the other end.
        for table in (named("B3"), named("A1"), named("A2"), named("~A2"), chain((4, 4)), beside(chain((4,)), named("A1")),
                      chain((0,)), named("F4"), named("~C2")):
            change = plain(table)
            self.refuses(NotDressed(change), signed_for, change=change)


if __name__ == "__main__":
    unittest.main()
