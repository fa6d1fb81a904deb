"""Points 22 for rooms, 33, and the module carrying."""

import itertools
import unittest

import oracle
from oracle import CallCase, chance, odd_values, random_ties, random_word
from wallwalks.carrying import carrying, is_carried, kin, room_moves
from wallwalks.changes import Change, plain
from wallwalks.ends import is_finite_room, room_top, top
from wallwalks.errors import InvalidRoom, NotAChange, NotATable
from wallwalks.tables import Table, beside, chain, named

RING = named("~A2")
TABLES = tuple(named(name) for name in ("A1", "A3", "B3", "H3", "D4", "F4", "~A2", "~C2", "~B3", "~G2", "A2", "B2", "G2")) + (
    chain((0, 3)), chain((3, 0, 3)), chain((0,)), chain((4, 3, 4)), beside(chain((3,)), chain((0,))), chain((5, 6)),
    Table(oracle.rows_of(4, {(0, 1): 3, (1, 2): 3, (2, 0): 3, (2, 3): 3})),
)


def rooms_of(size):
    return [room for many in range(size + 1) for room in itertools.combinations(range(size), many)]


def led_axes(change, room):
    table = change.table
    return {oracle.turn_by(table.ties, oracle.axis(table.size, s), change.word) for s in room}


def axes_of(table, room):
    return {oracle.axis(table.size, s) for s in room}


def piece_with(table, room, s):
    """The piece of s in the table of the room and s."""
    lot = {s}
    while True:
        more = {t for t in set(room) - lot for u in lot if table.ties[t][u] != 2}
        if not more:
            return tuple(sorted(lot))
        lot |= more


class MoveTest(CallCase):
    def test_moves(self):
        endless = same = 0
        for table in TABLES:
            for room in rooms_of(table.size):
                found = self.call(room_moves, table=table, room=room)
                expected = []
                for s in range(table.size):
                    if s in room:
                        continue
                    piece = piece_with(table, room, s)
                    if not is_finite_room(table, piece):
                        endless += 1
                        continue
                    move = room_top(table, piece) * room_top(table, tuple(t for t in piece if t != s))
                    expected.append((s, move))
                self.assertEqual([(s, move) for s, _, move in found], expected)
                for s, led, move in found:
                    self.assertEqual(led_axes(move, room), axes_of(table, led))
                    self.assertEqual(sorted(set(led)), list(led))
                    self.assertLessEqual(set(led), set(room) | {s})
                    self.assertIs(is_carried(move, room, led), True)
                    same += led == room
        self.assertGreater(min(endless, same), 20)

    def test_a_button_alone(self):
        table = chain((2, 2))
        self.assertEqual(room_moves(table, (0, 2)), ((1, (0, 2), Change(table, (1,))),))
        self.assertEqual(room_moves(table, ()), tuple((s, (), Change(table, (s,))) for s in range(3)))
        self.assertEqual(room_moves(table, (0, 1, 2)), ())

    def test_other_pieces_may_be_endless(self):
        table = beside(chain((0,)), chain((3,)))
        self.assertEqual([(s, room) for s, room, _ in room_moves(table, (0, 1, 2))], [(3, (0, 1, 3))])
        self.assertEqual(kin(table, (0, 1, 2)), ((0, 1, 2), (0, 1, 3)))
        self.assertEqual(room_moves(table, (0, 2))[0][0], 3)


class KinTest(CallCase):
    def test_kin_and_carrying(self):
        for table in TABLES:
            lots = {room: self.call(kin, table=table, room=room) for room in rooms_of(table.size)}
            for room, lot in lots.items():
                self.assertEqual(list(lot), sorted(set(lot)))
                self.assertIn(room, lot)
                for other in lot:
                    self.assertEqual(lots[other], lot)
                    change = self.call(carrying, table=table, room=room, other_room=other)
                    self.assertIs(type(change), Change)
                    self.assertEqual(change.table, table)
                    self.assertEqual(led_axes(change, room), axes_of(table, other))
                    self.assertIs(self.call(is_carried, change=change, room=room, other_room=other), True)
                for other in [other for other in lots if other not in lot][:6]:
                    self.assertIsNone(self.call(carrying, table=table, room=room, other_room=other))

    def test_by_all_changes(self):
        for table, most in ((named("A3"), 6), (named("B3"), 9), (named("H3"), 15), (named("G2"), 6), (RING, 6), (named("~C2"), 6),
                            (chain((0, 3)), 6), (chain((3, 0, 3)), 5), (beside(chain((3,)), chain((4,))), 7)):
            changes = [Change(table, word) for layer in oracle.changes_by_length(table.ties, most) for word in layer]
            rooms = rooms_of(table.size)
            for room in rooms:
                led = [led_axes(change, room) for change in changes]
                expected = tuple(sorted(other for other in rooms if axes_of(table, other) in led))
                self.assertEqual(kin(table, room), expected)

    def test_of_one_button(self):
        table = Table(oracle.rows_of(6, {(0, 3): 5, (3, 5): 3, (1, 2): 4, (2, 4): 3, (0, 1): 0, (5, 4): 6}))
        self.assertEqual([kin(table, (s,)) for s in range(6)], [((0,), (3,), (5,)), ((1,),), ((2,), (4,)), ((0,), (3,), (5,)),
                                                               ((2,), (4,)), ((0,), (3,), (5,))])
        self.assertEqual(len(kin(named("~A5"), (0, 1))), 6)
        self.assertEqual(len(kin(named("A6"), (0, 2))), 10)

    def test_what_is_carried(self):
        rng = chance(101)
        for table in TABLES:
            for _ in range(30):
                change = Change(table, random_word(rng, table.size, rng.randrange(5)))
                room, other = rng.choice(rooms_of(table.size)), rng.choice(rooms_of(table.size))
                expected = led_axes(change, room) == axes_of(table, other)
                self.assertIs(self.call(is_carried, change=change, room=room, other_room=other), expected)
                if expected:
                    for s in room:
                        moved = change * Change(table, (s,)) * change.inverse()
                        self.assertIn(moved, [Change(table, (t,)) for t in other])
        self.assertIs(is_carried(plain(RING), (0, 1), (0, 1)), True)
        self.assertIs(is_carried(plain(RING), (0, 1), (0,)), False)
        self.assertIs(is_carried(plain(RING), (), ()), True)
        # The top turns axes to opposites of axes, which are none of buttons.
        self.assertIs(is_carried(top(named("A2")), (0,), (1,)), False)

    def test_long_changes(self):
        long_one = Change(chain((3, 0)), (0, 1, 2) * 20) ** 5
        carrier = long_one * carrying(long_one.table, (0,), (1,)) * long_one.inverse()
        self.assertIs(is_carried(carrier, (0,), (1,)), False)
        self.assertIs(is_carried(long_one * long_one.inverse() * carrying(long_one.table, (0,), (1,)), (0,), (1,)), True)


class WrongTest(CallCase):
    def test_wrong_tables_and_changes(self):
        for value in odd_values() + [plain(RING)]:
            self.refuses(NotATable(value), room_moves, table=value, room=0)
            self.refuses(NotATable(value), kin, table=value, room=0)
            self.refuses(NotATable(value), carrying, table=value, room=0, other_room=0)
        for value in odd_values() + [RING]:
            self.refuses(NotAChange(value), is_carried, change=value, room=0, other_room=0)

    def test_wrong_rooms(self):
        for room, at in [(value, None) for value in odd_values(but=(lambda v: type(v) is tuple,))] + [
            ((3,), 0), ((0, 0), 1), ((1, 0), 1), ((0, 1, 2, 2), 3), ((True,), 0), ((-1,), 0), ((0, "x"), 1),
        ]:
            self.refuses(InvalidRoom(at), room_moves, table=RING, room=room)
            self.refuses(InvalidRoom(at), kin, table=RING, room=room)
            self.refuses(InvalidRoom(at), carrying, table=RING, room=room, other_room=0)
            self.refuses(InvalidRoom(at), carrying, table=RING, room=(0, 1, 2), other_room=room)
            self.refuses(InvalidRoom(at), is_carried, change=plain(RING), room=room, other_room=0)
            self.refuses(InvalidRoom(at), is_carried, change=plain(RING), room=(0, 1, 2), other_room=room)


if __name__ == "__main__":
    unittest.main()
