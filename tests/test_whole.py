"""The whole: what the parts say of the same changes fits together (points 13, 20, 30, 34, 37, 39, 44, 46, 53, 54)."""

import unittest

import oracle
from oracle import CallCase, chance, random_ties, random_word
from wallwalks.benches import Bench
from wallwalks.cards import cards_table, change_for, deal_for, deal_length
from wallwalks.certificates import (
    certify_carried, certify_crossing, certify_front, certify_least, certify_mirrors, certify_order, certify_quotients,
    certify_settled, certify_under, certify_words,
)
from wallwalks.changes import Change, least_words, plain
from wallwalks.checker import accepts
from wallwalks.consoles import Console
from wallwalks.crossings import crossed, crosses, crossing, passed
from wallwalks.ends import how_many, is_finite, top
from wallwalks.errors import Broken, TooMany
from wallwalks.fronts import beginnings, begins, common_front, least_continuation
from wallwalks.machines import change_at, first_reader, is_small, least_reader, next_change, number_of
from wallwalks.positives import Positive, grains, led_down, lifted, shared_front
from wallwalks.quotients import Quotient, shadow
from wallwalks.ringcards import ring_change, ring_for, ring_length, ring_table
from wallwalks.rooms import distance, is_inside, own_room, split_behind, split_front
from wallwalks.shelves import Shelf
from wallwalks.signedcards import signed_change, signed_for, signed_length, signed_table
from wallwalks.steps import is_least, spare
from wallwalks.subwords import is_under, places, shortening, sticky, sticky_product
from wallwalks.sums import single
from wallwalks.tables import Table, beside, chain, named
from wallwalks.turns import carried_by, carrier, class_of, classes, mirrors, order_of, shift
from wallwalks.undoing import flip_carrier, is_flip, settled
from wallwalks.wishes import holds

LISTED = tuple(named(name) for name in ("A1", "A2", "A3", "B2", "B3", "G2", "H2")) + (
    chain((2, 3)), beside(named("A2"), named("B2")), signed_table(3), cards_table(4),
)


def some_words(seed, many, most=4):
    """Tables with two words."""
    rng = chance(seed)
    for _ in range(many):
        kinds = rng.choice((oracle.TIES, (2, 3), (2, 3, 4, 5), (0, 3), (2, 2, 3, 4)))
        table = Table(random_ties(rng, rng.randrange(1, most + 1), kinds))
        yield rng, table, random_word(rng, table.size, rng.randrange(9)), random_word(rng, table.size, rng.randrange(5))


class AllTablesTest(CallCase):
    def test_words_walls_and_readers(self):
        for _, table, word, _ in some_words(361, 120):
            change = Change(table, word)
            first = oracle.first_word(table.ties, word)
            walls = crossed(change)
            self.assertEqual((change.word, change.length, least_words(change)[0]), (first, len(walls), first))
            self.assertEqual(crossing(table, walls[::-1]), change)
            odd = [wall for wall in passed(table, word) if passed(table, word).count(wall) % 2]
            self.assertTrue(all(wall in odd for wall in walls) and len({wall.road for wall in odd}) == len(walls))
            self.assertIs(is_least(table, word), spare(table, word) is None)
            self.assertIs(is_least(table, word), len(set(wall.road for wall in passed(table, word))) == len(word))
            try:
                reader, first_one = least_reader(table), first_reader(table)
            except TooMany:
                continue
            self.assertIs(reader.reads(word), is_least(table, word))
            self.assertIs(first_one.reads(word), word == first)
            if is_least(table, word):
                state = reader.states[reader.state(word)]
                back = change.inverse()
                self.assertEqual([reader.walls[at] for at in state], [wall for wall in reader.walls if crosses(back, wall)])
                self.assertTrue(all(is_small(reader.walls[at]) for at in state))
            number = number_of(change)
            self.assertEqual(change_at(table, number), change)
            further = next_change(change)
            self.assertEqual(further, change_at(table, number + 1))
            self.assertTrue(further is None or (further.length, further.word) > (change.length, change.word))

    def test_fronts_splits_and_distances(self):
        for rng, table, word, other_word in some_words(362, 120):
            change, other = Change(table, word), Change(table, other_word)
            front = common_front(change, other)
            self.assertTrue(begins(front, change) and begins(front, other) and is_under(front, change))
            self.assertEqual(front, led_down(shared_front(lifted(change), lifted(other))))
            mine, others = ({wall.road for wall in crossed(one)} for one in (change, other))
            self.assertEqual(distance(change, other), len(mine ^ others))
            self.assertLessEqual({wall.road for wall in crossed(front)}, mine & others)
            further = least_continuation(change, other, 20)
            if further is not None:
                walls = [wall.road for wall in crossed(further)]
                self.assertTrue(all(wall.road in walls for wall in crossed(change) + crossed(other)))
            room = tuple(sorted(rng.sample(range(table.size), rng.randrange(table.size + 1))))
            u, v = split_behind(change, room)
            self.assertEqual((u * v, u.length + v.length), (change, change.length))
            v, u = split_front(change, room)
            self.assertEqual((v * u, v.length + u.length), (change, change.length))
            self.assertTrue(is_inside(v, room) and set(own_room(v)) <= set(room) & set(own_room(change)))

    def test_what_is_left_out(self):
        for _, table, word, other_word in some_words(363, 120):
            change, other = Change(table, word), Change(table, other_word)
            under = is_under(other, change)
            found = places(other, change)
            self.assertIs(found is not None, under)
            if under:
                self.assertEqual(Change(table, tuple(change.word[at] for at in found)), other)
            self.assertIs(not shortening(other, change)[-1][0], under)
            both = sticky_product(change, other)
            self.assertEqual(both, sticky(table, change.word + other.word))
            self.assertTrue(is_under(change * other, both) and is_under(change, both) and is_under(other, both))
            self.assertTrue(begins(change, both))

    def test_lifts_and_grains(self):
        for _, table, word, _ in some_words(364, 100):
            change, made = Change(table, word), Positive(table, word)
            self.assertEqual(led_down(made), change)
            self.assertEqual(lifted(change).word, change.word)
            self.assertEqual(grains(lifted(change)), (change,) if change else ())
            together = Positive(table, ())
            for grain in grains(made):
                together = together * lifted(grain)
            self.assertEqual(together, made)
            self.assertIs(made == lifted(change), is_least(table, word))

    def test_orders_and_what_is_carried(self):
        for _, table, word, other_word in some_words(365, 100):
            change, other = Change(table, word), Change(table, other_word)
            order = order_of(change)
            self.assertEqual(order_of(change.inverse()), order)
            self.assertIs(is_flip(change), order in (1, 2))
            carried = carried_by(change, other)
            self.assertEqual((order_of(carried), carried.parity, shift(carried)), (order, change.parity, shift(change)))
            if is_flip(change):
                by, room = settled(change)
                self.assertEqual(shift(change), len(room))
                self.assertEqual(carried_by(change, flip_carrier(change, carried)), carried)
                self.assertTrue(accepts(*certify_settled(change)))
            if order and is_finite(table):
                self.assertEqual(not change.power(order), True)

    def test_certificates(self):
        for _, table, word, other_word in some_words(366, 80):
            change, other = Change(table, word), Change(table, other_word)
            made = [certify_least(table, word), certify_order(change), certify_front(change, other), certify_under(other, change),
                    certify_words(table, word, change.word)]
            made += [certify_crossing(change, wall) for wall in passed(table, other_word)]
            self.assertTrue(all(accepts(*pair) for pair in made))
            self.assertEqual(made[0][0][0], "least" if is_least(table, word) else "spare")
            self.assertEqual(made[3][0][0] == "under", is_under(other, change))

    def test_benches_consoles_and_shelves(self):
        for _, table, word, other_word in some_words(367, 80):
            change, other = Change(table, word), Change(table, other_word)
            bench = Bench(table)
            console = Console(bench)
            bench.press(word)
            self.assertEqual((bench.now, bench.home), (change, change.inverse().word))
            for s in other_word[::-1]:
                console.say(f"front {s}")
            self.assertEqual(bench.now, other * change)
            self.assertEqual(console.say("now"), (other * change).text)
            self.assertEqual(console.say("length"), str((other * change).length))
            shelf = Shelf(table)
            shelf.put_all((("a", change), ("b", other), ("ab", change * other), ("ia", change.inverse())))
            for wish in (("product", "a", "b", "ab"), ("inverse", "a", "ia"), ("length", "a", change.length),
                         ("order", "a", order_of(change)), ("inside", "a", own_room(change))):
                shelf.wish(wish)
            for wish, expected in ((("begins", "b", "a"), begins(other, change)), (("under", "b", "a"), is_under(other, change)),
                                   (("same", "a", "ia"), is_flip(change)), (("commute", "a", "b"), change * other == other * change)):
                pairs = tuple((name, shelf.named(name)) for name in shelf.names)
                self.assertIs(holds(wish, pairs), expected)
                before = len(shelf.wishes)
                try:
                    shelf.wish(wish)
                except Broken:
                    self.assertIs(expected, False)
                self.assertEqual(len(shelf.wishes), before + expected)
            self.assertTrue(all(holds(wish, tuple((name, shelf.named(name)) for name in shelf.names)) for wish in shelf.wishes))
            console.say("home")
            self.assertEqual(bench.now, plain(table))


class FiniteTest(CallCase):
    def test_numbers_in_order(self):
        for table in LISTED:
            every = beginnings(top(table))
            self.assertEqual(len(every), how_many(table))
            self.assertEqual([number_of(change) for change in every], list(range(len(every))))
            self.assertEqual([change_at(table, number) for number in range(len(every))], list(every))
            self.assertIsNone(change_at(table, len(every)))
            self.assertIsNone(next_change(top(table)))
            self.assertEqual([next_change(change) for change in every[:-1]], list(every[1:]))

    def test_sums_with_the_letter_at_1(self):
        for table in LISTED:
            rng = chance(368)
            for _ in range(12):
                u, w = (Change(table, random_word(rng, table.size, rng.randrange(8))) for _ in range(2))
                at_1 = {change.word: laurent.total for change, laurent in (single(u) * single(w)).terms if laurent.total}
                self.assertEqual(at_1, {(u * w).word: 1})

    def test_quotients(self):
        for table in LISTED:
            rng = chance(369)
            for _ in range(10):
                u, w = (Change(table, random_word(rng, table.size, rng.randrange(6))) for _ in range(2))
                quotient = Quotient(lifted(u), lifted(w))
                self.assertEqual(shadow(quotient), u * w.inverse())
                self.assertEqual(quotient == Quotient(lifted(u * w.inverse()), Positive(table, ())), begins(w.inverse(), u.inverse()))
                self.assertTrue(accepts(*certify_quotients(quotient, quotient)))

    def test_classes(self):
        for table in LISTED:
            firsts = classes(table)
            self.assertEqual(sum(len(class_of(first)) for first in firsts), how_many(table))
            for first in firsts:
                for change in class_of(first)[::3]:
                    self.assertEqual((order_of(change), change.parity, shift(change)), (order_of(first), first.parity, shift(first)))
                    self.assertEqual(carried_by(first, carrier(first, change)), change)
                    self.assertEqual(len(mirrors(change)), len(mirrors(first)))
                    self.assertEqual(class_of(change)[0], first)
                    self.assertTrue(accepts(*certify_carried(first, change)) and accepts(*certify_mirrors(change)))

    def test_deals(self):
        for table, to_deal, to_change, length in ((cards_table(4), deal_for, change_for, deal_length),
                                                  (signed_table(3), signed_for, signed_change, signed_length)):
            every = beginnings(top(table))
            self.assertEqual(len({to_deal(change) for change in every}), len(every))
            for change in every:
                self.assertEqual(to_change(to_deal(change)), change)
                self.assertEqual(length(to_deal(change)), change.length)
        ring = ring_table(4)
        for number in range(0, 300, 7):
            change = change_at(ring, number)
            self.assertEqual(ring_change(ring_for(change)), change)
            self.assertEqual(ring_length(ring_for(change)), change.length)


if __name__ == "__main__":
    unittest.main()
