"""Points 31, 32 and the module rooms."""

import itertools
import unittest

import oracle
from oracle import CallCase, chance, odd_values, random_ties, random_word
from wallwalks.changes import Change, least_words, plain
from wallwalks.errors import InvalidChanges, InvalidNumber, InvalidRoom, NotAChange, NotATable, OtherTable, TooMany
from wallwalks.rooms import (
    distance, gate, hull, is_inside, own_room, shared_room, shortest, split_behind, split_double, split_front,
)
from wallwalks.tables import Table, beside, chain, named

RING = named("~A2")
FREE = Table(oracle.rows_of(6, {(s, t): 0 for s in range(6) for t in range(s)}))
LONG = Change(RING, (0, 1, 2) * 20) ** 4


def rooms_of(size):
    return [room for many in range(size + 1) for room in itertools.combinations(range(size), many)]


def some_changes(seed, many, longest=10, most=5):
    rng = chance(seed)
    for _ in range(many):
        kinds = rng.choice((oracle.TIES, (2, 3), (2, 3, 4, 5), (0, 3)))
        table = Table(random_ties(rng, rng.randrange(1, most + 1), kinds))
        word = random_word(rng, table.size, rng.randrange(longest + 1))
        room = tuple(s for s in range(table.size) if rng.randrange(2))
        yield rng, table, Change(table, word), room


def changes_of(table, most):
    return [Change(table, word) for layer in oracle.changes_by_length(table.ties, most) for word in layer]


def room_changes(table, room, most=20):
    """All changes of a room, up to a length."""
    return [change for change in changes_of(table, most) if set(change.word) <= set(room)]


class SplitTest(CallCase):
    def test_own_rooms(self):
        for _, table, change, room in some_changes(91, 120):
            found = self.call(own_room, change=change)
            self.assertEqual(found, tuple(sorted(set(change.word))))
            for word in least_words(change)[:20]:
                self.assertEqual(set(word), set(found))
            self.assertIs(self.call(is_inside, change=change, room=room), set(change.word) <= set(room))
            self.assertIs(is_inside(change, found), True)
            self.assertIs(is_inside(change, ()), not change)
        self.assertEqual(own_room(plain(RING)), ())
        self.assertEqual(own_room(LONG), (0, 1, 2))

    def test_splits(self):
        for _, table, change, room in some_changes(92, 200, 14):
            u, v = self.call(split_behind, change=change, room=room)
            self.assertEqual(u * v, change)
            self.assertEqual(u.length + v.length, change.length)
            self.assertLessEqual(set(v.word), set(room))
            self.assertFalse(set(u.backs) & set(room))
            v, u = self.call(split_front, change=change, room=room)
            self.assertEqual(v * u, change)
            self.assertEqual(u.length + v.length, change.length)
            self.assertLessEqual(set(v.word), set(room))
            self.assertFalse(set(u.fronts) & set(room))

    def test_the_shortest_of_copies(self):
        for table in (named("A3"), named("B3"), named("H3"), RING, chain((0, 3))):
            some = changes_of(table, 5)[::7]
            for room in rooms_of(table.size):
                inside = room_changes(table, room, 6)
                for change in some:
                    u = split_behind(change, room)[0]
                    longer = [one for one in inside if (change * one).length < u.length or change * one == u]
                    self.assertEqual([change * one for one in longer], [u] if u.length + 6 >= change.length else [])

    def test_long_changes(self):
        u, v = split_behind(LONG, (0, 2))
        self.assertEqual((u * v, u.length + v.length), (LONG, LONG.length))
        v, u = split_front(LONG, (1, 2))
        self.assertEqual((v * u, u.length + v.length), (LONG, LONG.length))
        self.assertEqual(split_front(LONG, (0, 1, 2))[0], LONG)
        a, d, b = split_double(LONG, (0, 1), (1, 2))
        self.assertEqual((a * d * b, a.length + d.length + b.length), (LONG, LONG.length))
        self.assertEqual(distance(LONG, LONG.inverse()), (LONG * LONG).length)

    def test_double_splits(self):
        shared = 0
        for rng, table, change, room in some_changes(93, 250, 12):
            other = tuple(s for s in range(table.size) if rng.randrange(2))
            a, d, b = self.call(split_double, change=change, room=room, other_room=other)
            held = self.call(shared_room, change=change, room=room, other_room=other)
            self.assertEqual(a * d * b, change)
            self.assertEqual(a.length + d.length + b.length, change.length)
            self.assertLessEqual(set(a.word), set(room))
            self.assertLessEqual(set(b.word), set(other))
            self.assertFalse(set(d.fronts) & set(room))
            self.assertFalse(set(d.backs) & set(other))
            buttons = [Change(table, (t,)) for t in other]
            expected = tuple(s for s in room if d.inverse() * Change(table, (s,)) * d in buttons)
            self.assertEqual(held, expected)
            self.assertFalse(set(a.backs) & set(held))
            shared += bool(held)
        self.assertGreater(shared, 40)

    def test_the_shortest_of_double_copies(self):
        for table in (named("A3"), named("B3")):
            for room, other in itertools.product(rooms_of(3), repeat=2):
                front, behind = room_changes(table, room), room_changes(table, other)
                for change in changes_of(table, 9)[::11]:
                    both = {(v * change * x).word for v in front for x in behind}
                    least = min(map(len, both))
                    d = split_double(change, room, other)[1]
                    self.assertEqual([word for word in both if len(word) == least], [d.word])


class CopyTest(CallCase):
    def test_distances(self):
        for rng, table, change, _ in some_changes(94, 120):
            other = Change(table, random_word(rng, table.size, 6))
            found = self.call(distance, change=change, other=other)
            self.assertEqual(found, len(oracle.first_word(table.ties, change.word[::-1] + other.word)))
            self.assertEqual(found, distance(other, change))
            self.assertEqual(distance(change, change), 0)

    def test_gates(self):
        for table in (named("A3"), named("B3"), RING, chain((0, 3))):
            for room in rooms_of(table.size):
                inside = room_changes(table, room, 9)
                rng = chance(95)
                for _ in range(6):
                    change = Change(table, random_word(rng, table.size, 4))
                    other = Change(table, random_word(rng, table.size, 4))
                    found = self.call(gate, change=change, other=other, room=room)
                    self.assertIn(change.inverse() * found, inside)
                    for one in inside:
                        here = change * one
                        self.assertEqual(distance(other, here), distance(other, found) + distance(found, here))

    def test_hulls(self):
        for table in (named("A3"), named("B3"), RING, chain((0, 3)), beside(chain((3,)), chain((2,)))):
            rng = chance(96)
            for _ in range(25):
                changes = tuple(Change(table, random_word(rng, table.size, rng.randrange(4)))
                                for _ in range(rng.randrange(1, 4)))
                u, room = self.call(hull, changes=changes)
                fitting = [held for held in rooms_of(table.size)
                           if all(set((changes[0].inverse() * change).word) <= set(held) for change in changes)]
                self.assertEqual(room, min(fitting, key=len))
                self.assertTrue(all(set(room) <= set(held) for held in fitting))
                self.assertFalse(set(u.backs) & set(room))
                self.assertLessEqual(set((u.inverse() * changes[0]).word), set(room))
        self.assertEqual(hull((LONG,)), (LONG, ()))
        self.assertEqual(hull((LONG, LONG * Change(RING, (1,))))[1], (1,))
        self.assertEqual(hull((plain(RING),) * 30), (plain(RING), ()))

    def test_shortest(self):
        for table in (named("A3"), named("H3"), RING, chain((0, 3)), named("A1"), chain((0,)), chain((5, 0)), named("D4")):
            some = changes_of(table, 5)
            for room in rooms_of(table.size):
                for length in range(6):
                    expected = tuple(one for one in some if one.length == length and not set(one.backs) & set(room))
                    self.assertEqual(self.call(shortest, table=table, room=room, length=length), expected)
        self.assertEqual(shortest(named("B2"), (0, 1), 1), ())
        self.assertEqual(shortest(named("B2"), (0, 1), 0), (plain(named("B2")),))
        self.assertEqual([len(shortest(named("A3"), (), length)) for length in range(8)], [1, 3, 5, 6, 5, 3, 1, 0])

    def test_too_many_shortest(self):
        self.assertEqual(len(shortest(FREE, (), 4)), 750)
        self.assertEqual(len(shortest(FREE, (0, 1, 2, 3, 4), 5)), 625)
        for length in (5, 6, 12):
            self.refuses(TooMany(1000), shortest, table=FREE, room=(), length=length)
            self.assertEqual(shortest(FREE, (0, 1, 2, 3, 4, 5), length), ())
        self.refuses(TooMany(1000), shortest, table=FREE, room=(0, 1, 2, 3, 4), length=6)
        self.refuses(TooMany(1000), shortest, table=named("B6"), room=(), length=12)

    def test_just_as_many_as_can_be(self):
        table = Table.read("table: 1 2 2 5 4; 2 1 2 4 4; 2 2 1 3 2; 5 4 3 1 3; 4 4 2 3 1")
        self.assertEqual(len(shortest(table, (), 6)), 1000)
        self.refuses(TooMany(1000), shortest, table=table, room=(), length=7)
        table = Table.read("table: 1 0 4 6 4; 0 1 2 5 5; 4 2 1 4 6; 6 5 4 1 4; 4 5 6 4 1")
        self.assertEqual(len(oracle.changes_by_length(table.ties, 5)[5]), 1001)
        self.refuses(TooMany(1000), shortest, table=table, room=(), length=5)


class WrongTest(CallCase):
    def test_wrong_changes(self):
        for value in odd_values() + [RING]:
            self.refuses(NotAChange(value), own_room, change=value)
            for function in (is_inside, split_behind, split_front):
                self.refuses(NotAChange(value), function, change=value, room=0)
            for function in (split_double, shared_room):
                self.refuses(NotAChange(value), function, change=value, room=0, other_room=0)
            self.refuses(NotAChange(value), distance, change=value, other=0)
            self.refuses(NotAChange(value), distance, change=LONG, other=value)
            self.refuses(NotAChange(value), gate, change=value, other=0, room=0)
            self.refuses(NotAChange(value), gate, change=LONG, other=value, room=0)
            self.refuses(NotATable(value) if value is not RING else InvalidRoom(None), shortest, table=value, room=0, length=-1)

    def test_wrong_rooms(self):
        other = plain(chain((3,)))
        for room, at in [(value, None) for value in odd_values(but=(lambda v: type(v) is tuple,))] + [
            ((3,), 0), ((0, 0), 1), ((1, 0), 1), ((0, 1, 2, 2), 3), ((True,), 0), ((-1,), 0), ((0, "x"), 1), ((0, 1, 2, 3), 3),
        ]:
            for function in (is_inside, split_behind, split_front):
                self.refuses(InvalidRoom(at), function, change=LONG, room=room)
            for function in (split_double, shared_room):
                self.refuses(InvalidRoom(at), function, change=LONG, room=room, other_room=0)
                self.refuses(InvalidRoom(at), function, change=LONG, room=(0, 1, 2), other_room=room)
            self.refuses(InvalidRoom(at), gate, change=LONG, other=other, room=room)
            self.refuses(InvalidRoom(at), shortest, table=RING, room=room, length=-1)

    def test_wrong_lengths(self):
        for value in odd_values(but=(lambda v: type(v) is int and 0 <= v <= 12,)) + [13]:
            self.refuses(InvalidNumber(value), shortest, table=FREE, room=(), length=value)

    def test_wrong_tuples_of_changes(self):
        other = plain(chain((3,)))
        for value in odd_values(but=(lambda v: type(v) is tuple and v,)) + [LONG, [LONG]]:
            self.refuses(InvalidChanges(None), hull, changes=value)
        for value in odd_values() + [other, RING, (LONG,)]:
            for at in (1, 2, 29):
                self.refuses(InvalidChanges(at), hull, changes=(LONG,) * at + (value, "x"))
        for value in odd_values():
            self.refuses(InvalidChanges(0), hull, changes=(value, LONG))
        self.refuses(InvalidChanges(1), hull, changes=(other, LONG, other))
        self.refuses(InvalidChanges(30), hull, changes=(LONG,) * 31)
        self.refuses(InvalidChanges(30), hull, changes=(LONG,) * 30 + ("x", "x"))
        self.assertEqual(hull(changes=(LONG,) * 30)[1], ())

    def test_unlike_tables(self):
        other = plain(chain((3,)))
        self.refuses(OtherTable(), distance, change=LONG, other=other)
        self.refuses(OtherTable(), gate, change=LONG, other=other, room=(2,))


if __name__ == "__main__":
    unittest.main()
