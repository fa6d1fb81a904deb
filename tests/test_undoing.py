"""Point 49, what point 33 tells of opposite rooms that are carried, and the module undoing."""

import itertools
import unittest

import oracle
from oracle import CallCase, chance, odd_values, random_ties, random_word
from wallwalks.carrying import carrying, kin
from wallwalks.changes import Change, plain
from wallwalks.ends import how_many, is_finite_room, room_top, top
from wallwalks.errors import InvalidRoom, NotAChange, NotAFlip, NotATable, NotFinite, OtherTable, TooMany
from wallwalks.rooms import is_inside
from wallwalks.tables import Table, beside, chain, named
from wallwalks.turns import carried_by, carrier
from wallwalks.undoing import flip_carrier, flips, is_flip, is_opposite, opposite_rooms, settled

RING = named("~A2")
PAIR = chain((0,))
LISTED = tuple(named(name) for name in ("A1", "A2", "B2", "G2", "H2", "A3", "B3")) + (
    chain((2,)), beside(named("A2"), named("A1")), beside(named("A2"), named("B2")),
)
TABLES = LISTED + tuple(named(name) for name in ("A4", "D4", "H3", "H4", "F4", "E6", "D5", "~A1", "~A2", "~C2", "~B3", "~G2")) + (
    chain((0, 3)), chain((5, 5)), chain((3, 0, 3)), chain((4, 6)), beside(chain((0,)), chain((3,))),
)


def rooms_of(size):
    return [room for many in range(size + 1) for room in itertools.combinations(range(size), many)]


def is_opposite_room(table, room):
    """By the definition, with the axes turned by the slow way."""
    if not is_finite_room(table, room):
        return False
    word = room_top(table, room).word
    size = table.size
    return all(oracle.turn_by(table.ties, oracle.axis(size, s), word) == tuple(map(oracle.g_neg, oracle.axis(size, s)))
               for s in room)


def random_flip(rng, table, most=6):
    """The top of an opposite room, carried by a change."""
    room = rng.choice([room for room in rooms_of(table.size) if is_opposite_room(table, room)])
    return carried_by(room_top(table, room), Change(table, random_word(rng, table.size, rng.randrange(most + 1))))


class OppositeTest(CallCase):
    def test_opposite_rooms(self):
        for table in TABLES:
            expected = tuple(room for room in rooms_of(table.size) if is_opposite_room(table, room))
            self.assertEqual(self.call(opposite_rooms, table=table), expected)
            for room in rooms_of(table.size):
                self.assertIs(self.call(is_opposite, table=table, room=room), room in expected)

    def test_named_ones(self):
        whole = {name: is_opposite(named(name), tuple(range(named(name).size))) for name in
                 ("A1", "A2", "A3", "B2", "B3", "B6", "D4", "D5", "D6", "E6", "F4", "G2", "H2", "H3", "H4", "~A1", "~A2")}
        self.assertEqual([name for name, one in whole.items() if one],
                         ["A1", "B2", "B3", "B6", "D4", "D6", "F4", "G2", "H3", "H4"])
        self.assertIs(is_opposite(RING, ()), True)
        self.assertEqual(opposite_rooms(PAIR), ((), (0,), (1,)))
        self.assertEqual(opposite_rooms(chain((2, 4))), ((), (0,), (1,), (2,), (0, 1), (0, 2), (1, 2), (0, 1, 2)))

    def test_tops_are_flips_that_changes_of_the_room_leave(self):
        for table in TABLES:
            for room in opposite_rooms(table):
                one = room_top(table, room)
                self.assertIs(is_flip(one), True)
                for s in room:
                    self.assertEqual(carried_by(one, Change(table, (s,))), one)

    def test_carried_exactly_if_the_rooms_are(self):
        """Tops of opposite rooms by all changes of small finite tables, and by the axes of what carries them."""
        for table in LISTED:
            for room, other in itertools.product(opposite_rooms(table), repeat=2):
                found = carrier(room_top(table, room), room_top(table, other))
                self.assertIs(found is None, carrying(table, room, other) is None)


class FlipTest(CallCase):
    def test_is_flip(self):
        count = 0
        rng = chance(211)
        for table in TABLES:
            for _ in range(25):
                change = Change(table, random_word(rng, table.size, rng.randrange(6)))
                expected = oracle.least_words(table.ties, change.word) == oracle.least_words(table.ties, change.word[::-1])
                self.assertIs(self.call(is_flip, change=change), expected)
                self.assertIs(expected, not change * change)
                count += expected
                self.assertIs(is_flip(random_flip(rng, table)), True)
        self.assertGreater(count, 100)

    def test_flips_of_finite_tables(self):
        for table in LISTED:
            layers = oracle.changes_by_length(table.ties, top(table).length)
            every = [Change(table, word) for layer in layers for word in layer]
            self.assertEqual(self.call(flips, table=table), tuple(change for change in every if not change * change))
        # How many changes of cards undo themselves.
        self.assertEqual([len(flips(named(name))) for name in ("A1", "A2", "A3", "A4")], [2, 4, 10, 26])
        self.assertEqual([len(flips(named(name))) for name in ("B2", "B3", "B4", "D4", "H3")], [6, 20, 76, 44, 32])

    def test_settled(self):
        rng = chance(212)
        for table in TABLES:
            for _ in range(12):
                flip = random_flip(rng, table, 8)
                pair = self.call(settled, change=flip)
                self.assertIs(type(pair), tuple)
                change, room = pair
                self.assertIs(type(change), Change)
                self.assertTrue(is_opposite_room(table, room))
                self.assertEqual(carried_by(room_top(table, room), change), flip)
        self.assertEqual(settled(plain(RING)), (plain(RING), ()))
        self.assertEqual(settled(top(named("H4")))[1], (0, 1, 2, 3))
        self.assertEqual(len(settled(top(named("A4")))[1]), 2)

    def test_long_flips(self):
        for table in (Table(random_ties(chance(213), 6)), RING, chain((6, 0, 5))):
            long_one = Change(table, random_word(chance(214), table.size, 60)) ** 20
            flip = carried_by(Change(table, (1,)), long_one)
            change, room = settled(flip)
            self.assertEqual(carried_by(room_top(table, room), change), flip)
            other = carried_by(flip, Change(table, (0, 1, 0)))
            found = flip_carrier(flip, other)
            self.assertEqual(carried_by(flip, found), other)

    def test_flip_carriers(self):
        there = none = 0
        rng = chance(215)
        for table in TABLES:
            for _ in range(14):
                flip, other = random_flip(rng, table), random_flip(rng, table)
                found = self.call(flip_carrier, change=flip, other=other)
                back = flip_carrier(other, flip)
                self.assertIs(found is None, back is None)
                self.assertIs(found is None, settled(other)[1] not in kin(table, settled(flip)[1]))
                if found is None:
                    none += 1
                    continue
                there += 1
                self.assertEqual(found * flip * found.inverse(), other)
                self.assertEqual(carried_by(other, back), flip)
        self.assertGreater(min(there, none), 60)

    def test_flip_carriers_by_all_changes(self):
        for table in LISTED:
            every = flips(table)
            for flip, other in itertools.product(every[::2], every[::3]):
                self.assertIs(flip_carrier(flip, other) is None, carrier(flip, other) is None)
        # Flips of unlike parity, or settled in rooms that are not carried to one another, are not carried.
        self.assertIsNone(flip_carrier(Change(named("B2"), (0,)), Change(named("B2"), (1,))))
        self.assertIsNone(flip_carrier(plain(RING), Change(RING, (0,))))
        self.assertTrue(is_inside(flip_carrier(Change(RING, (0,)), Change(RING, (1,))), (0, 1, 2)))


class WrongTest(CallCase):
    def test_wrong_values(self):
        for value in odd_values() + [RING]:
            self.refuses(NotAChange(value), is_flip, change=value)
            self.refuses(NotAChange(value), settled, change=value)
            self.refuses(NotAChange(value), flip_carrier, change=value, other=0)
            self.refuses(NotAChange(value), flip_carrier, change=Change(RING, (0, 1)), other=value)
        for value in odd_values() + [plain(RING)]:
            self.refuses(NotATable(value), is_opposite, table=value, room=0)
            self.refuses(NotATable(value), opposite_rooms, table=value)
            self.refuses(NotATable(value), flips, table=value)

    def test_wrong_rooms(self):
        for room, at in [(value, None) for value in odd_values(but=(lambda v: type(v) is tuple,))] + [
            ((3,), 0), ((0, 0), 1), ((1, 0), 1), ((0, 1, 2, 2), 3), ((True,), 0), ((-1,), 0), ((0, "x"), 1),
        ]:
            self.refuses(InvalidRoom(at), is_opposite, table=RING, room=room)

    def test_what_is_no_flip(self):
        turn, other_turn, flip = Change(RING, (0, 1)), Change(RING, (1, 0)), Change(RING, (0,))
        self.refuses(NotAFlip(turn), settled, change=turn)
        self.refuses(NotAFlip(turn), flip_carrier, change=turn, other=other_turn)
        self.refuses(NotAFlip(other_turn), flip_carrier, change=flip, other=other_turn)
        self.refuses(NotAFlip(turn), flip_carrier, change=turn, other=flip)
        self.refuses(OtherTable(), flip_carrier, change=turn, other=Change(PAIR, (0, 1)))

    def test_listed(self):
        for table in (RING, PAIR, beside(named("A2"), PAIR)):
            self.refuses(NotFinite(), flips, table=table)
        for name in ("A5", "F4", "E6"):
            self.refuses(TooMany(how_many(named(name))), flips, table=named(name))


if __name__ == "__main__":
    unittest.main()
