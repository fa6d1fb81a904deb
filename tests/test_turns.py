"""Points 46 to 48 and the module turns."""

import math
import unittest

import oracle
from oracle import CallCase, chance, odd_values, random_ties, random_word
from wallwalks.changes import Change, plain
from wallwalks.crossings import crossed
from wallwalks.ends import climbing, how_many, top
from wallwalks.errors import NotAChange, NotATable, NotFinite, OtherTable, TooMany
from wallwalks.goldens import Golden
from wallwalks.tables import Table, beside, chain, named
from wallwalks.turns import carried_by, carrier, class_of, classes, kept, mirrors, order_of, shift
from wallwalks.walls import Wall, walls_all

RING = named("~A2")
PAIR = chain((0,))
LISTED = tuple(named(name) for name in ("A1", "A2", "B2", "G2", "H2", "A3", "B3")) + (
    chain((2,)), beside(named("A2"), named("A1")), beside(named("A2"), named("B2")),
)


def some_changes(seed, many, longest=9, most=5):
    rng = chance(seed)
    for _ in range(many):
        kinds = rng.choice((oracle.TIES, (2, 3), (2, 3, 4, 5), (0, 3), (2, 2, 3, 5)))
        table = Table(random_ties(rng, rng.randrange(1, most + 1), kinds))
        yield rng, table, Change(table, random_word(rng, table.size, rng.randrange(longest + 1)))


def all_of(table):
    layers = oracle.changes_by_length(table.ties, top(table).length)
    return [Change(table, word) for layer in layers for word in layer]


def order_by_images(table, word):
    """The least power with the images of the plain change, up to the 60th."""
    start = oracle.images(table.ties, ())
    vectors = start
    for power in range(1, 61):
        vectors = tuple(oracle.turn_by(table.ties, vector, word) for vector in vectors)
        if vectors == start:
            return power
    return 0


class OrderTest(CallCase):
    def test_by_powers(self):
        found = set()
        for _, table, change in some_changes(201, 200, 8):
            order = self.call(order_of, change=change)
            self.assertIs(type(order), int)
            self.assertEqual(order, order_by_images(table, change.word))
            found.add(order)
            if order:
                self.assertFalse(change.power(order))
                self.assertTrue(all(change.power(k) for k in range(1, order)))
        self.assertTrue({0, 1, 2, 3, 4, 5, 6, 10} <= found, found)

    def test_named_ones(self):
        for name, order in (("A1", 2), ("A4", 5), ("A6", 7), ("B4", 8), ("B6", 12), ("D4", 6), ("D6", 10), ("E6", 12),
                            ("F4", 12), ("G2", 6), ("H2", 5), ("H3", 10), ("H4", 30)):
            table = named(name)
            self.assertEqual(order_of(Change(table, tuple(range(table.size)))), order)
            self.assertEqual(order_of(plain(table)), 1)
        table = beside(beside(named("H2"), named("B2")), named("A2"))
        self.assertEqual(order_of(Change(table, (0, 1, 2, 3, 4, 5))), 60)
        for table in (RING, PAIR, named("~D5"), chain((3, 0, 3)), chain((6, 6, 6, 6, 6))):
            self.assertEqual(order_of(Change(table, climbing(table))), 0)
            self.assertEqual(order_of(Change(table, (0,))), 2)

    def test_inverses_and_carried_changes_have_the_same(self):
        for rng, table, change in some_changes(202, 120, 6):
            other = Change(table, random_word(rng, table.size, 7))
            carried = self.call(carried_by, change=change, other=other)
            self.assertEqual(carried, Change(table, oracle.first_word(table.ties, other.word + change.word + other.word[::-1])))
            self.assertEqual(carried.parity, change.parity)
            for held in (change.inverse(), carried):
                self.assertEqual(order_of(held), order_of(change))
                self.assertEqual(shift(held), shift(change))

    def test_long_changes(self):
        long_one = Change(RING, (0, 1, 2) * 20) ** 20
        self.assertEqual(order_of(long_one), 0)
        self.assertEqual(order_of(long_one * Change(RING, (0, 1)) * long_one.inverse()), 3)
        self.assertEqual(carried_by(Change(RING, (0, 1)), long_one), long_one * Change(RING, (0, 1)) * long_one.inverse())


class KeptTest(CallCase):
    def test_kept_vectors(self):
        counts = set()
        for _, table, change in some_changes(203, 250, 10, 6):
            vectors = self.call(kept, change=change)
            self.assertIs(type(vectors), tuple)
            for vector in vectors:
                self.assertEqual({type(number) for number in vector}, {Golden})
                self.assertEqual(change.turned(vector), vector)
            self.assertEqual(len(vectors), table.size - oracle.shift(table.ties, change.word))
            self.assertEqual(oracle.rank([oracle.pairs(vector) for vector in vectors]), len(vectors))
            self.assertEqual(self.call(shift, change=change), table.size - len(vectors))
            counts.add((table.size, len(vectors)))
        self.assertGreater(len(counts), 18)

    def test_edges(self):
        self.assertEqual(kept(top(named("B3"))), ())
        self.assertEqual(shift(top(named("B3"))), 3)
        self.assertEqual(shift(plain(RING)), 0)
        self.assertEqual(len(kept(plain(RING))), 3)
        # Flat tables have a vector that all changes keep.
        for name in ("~A3", "~B3", "~C3", "~D4", "~F4", "~G2"):
            table = named(name)
            self.assertEqual(len(kept(Change(table, tuple(range(table.size))))), 1)

    def test_mirrors_and_products(self):
        for rng, table, change in some_changes(204, 120, 6):
            wall = Wall(table, random_word(rng, table.size, 5), rng.randrange(table.size))
            self.assertEqual(shift(wall.mirror), 1)
            other = Change(table, random_word(rng, table.size, 4))
            self.assertLessEqual(shift(change * other), shift(change) + shift(other))
            self.assertIn(shift(wall.mirror * change) - shift(change), (1, 0, -1))

    def test_long_changes(self):
        table = Table(random_ties(chance(205), 6, (0, 3, 4, 5, 6)))
        long_one = Change(table, random_word(chance(206), 6, 60)) ** 12
        carried = long_one * Change(table, (0, 2, 4)) * long_one.inverse()
        self.assertGreater(carried.length, 300)
        self.assertEqual(shift(carried), shift(Change(table, (0, 2, 4))))
        self.assertTrue(all(carried.turned(vector) == vector for vector in kept(carried)))


class MirrorTest(CallCase):
    def least_many(self, table):
        """For each change the least number of mirrors, lot by lot from the plain one."""
        steps = [wall.mirror for wall in walls_all(table)]
        many = {(): 0}
        lot = [plain(table)]
        while lot:
            further = []
            for change in lot:
                for mirror in steps:
                    led = mirror * change
                    if led.word not in many:
                        many[led.word] = many[change.word] + 1
                        further.append(led)
            lot = further
        return many

    def test_as_few_as_can_be(self):
        for table in LISTED + (named("H3"),):
            least = self.least_many(table)
            self.assertEqual(len(least), how_many(table))
            for change in all_of(table):
                walls = self.call(mirrors, change=change)
                self.assertEqual({type(wall) for wall in walls} | {Wall}, {Wall})
                self.assertEqual(len(walls), least[change.word])
                self.assertEqual(len(walls), shift(change))
                made = plain(table)
                for wall in walls:
                    made = made * wall.mirror
                self.assertEqual(made, change)

    def test_great_tables(self):
        for name in ("A6", "B6", "D6", "E6", "H4", "F4"):
            table = named(name)
            rng = chance(207)
            for change in (top(table), Change(table, tuple(range(table.size))), Change(table, random_word(rng, table.size, 40))):
                made = plain(table)
                for wall in mirrors(change):
                    made = made * wall.mirror
                self.assertEqual(made, change)
                self.assertEqual(len(mirrors(change)), oracle.shift(table.ties, change.word))
            self.assertEqual(mirrors(plain(table)), ())

    def test_refused_where_not_finite(self):
        for table in (RING, PAIR, beside(named("A2"), PAIR)):
            for change in (plain(table), Change(table, (0,))):
                self.refuses(NotFinite(), mirrors, change=change)


class ClassTest(CallCase):
    def test_classes_of_all_changes(self):
        for table in LISTED:
            every = all_of(table)
            known = {}
            firsts = []
            for change in every:
                expected = sorted({(carried.length, carried.word) for carried in
                                   (other * change * other.inverse() for other in every)})
                found = self.call(class_of, change=change)
                self.assertEqual([(one.length, one.word) for one in found], expected)
                self.assertEqual(len(every) % len(found), 0)
                if change.word not in known:
                    firsts.append(change)
                known.update({one.word: found for one in found})
            self.assertEqual(self.call(classes, table=table), tuple(firsts))
            for change in every:
                self.assertEqual(class_of(change), known[change.word])

    def test_how_many_classes(self):
        for name, many in (("A1", 2), ("A3", 5), ("A4", 7), ("B2", 5), ("B3", 10), ("B4", 20), ("D4", 13), ("G2", 6),
                           ("H2", 4), ("H3", 10)):
            found = classes(named(name))
            self.assertEqual(len(found), many)
            self.assertEqual(sum(len(class_of(change)) for change in found), how_many(named(name)))

    def test_carriers(self):
        none = 0
        for table in LISTED[3:]:
            rng = chance(208)
            every = all_of(table)
            for _ in range(60):
                change, other = rng.choice(every), rng.choice(every)
                if rng.randrange(2):
                    other = carried_by(change, other)
                found = self.call(carrier, change=change, other=other)
                back = carrier(other, change)
                self.assertIs(found is None, other not in class_of(change))
                self.assertIs(found is None, back is None)
                none += found is None
                if found is not None:
                    self.assertEqual(found * change * found.inverse(), other)
                    self.assertEqual(carried_by(other, back), change)
        self.assertGreater(none, 50)

    def test_kept_and_crossed_fit(self):
        """A mirror's change crosses its wall, and what it keeps has the pairing 0 with the wall's column."""
        for table in LISTED:
            for wall in walls_all(table):
                self.assertIn(wall, crossed(wall.mirror))
                self.assertEqual(mirrors(wall.mirror), (wall,))


class WrongTest(CallCase):
    def test_wrong_changes(self):
        for value in odd_values() + [RING]:
            for function in (order_of, kept, shift, mirrors, class_of):
                self.refuses(NotAChange(value), function, change=value)
            for function in (carried_by, carrier):
                self.refuses(NotAChange(value), function, change=value, other=0)
                self.refuses(NotAChange(value), function, change=plain(RING), other=value)
        for value in odd_values() + [plain(RING)]:
            self.refuses(NotATable(value), classes, table=value)

    def test_other_tables(self):
        change, other = plain(RING), plain(named("A3"))
        self.refuses(OtherTable(), carried_by, change=change, other=other)
        self.refuses(OtherTable(), carrier, change=change, other=other)
        self.refuses(OtherTable(), carrier, change=other, other=plain(named("A6")))

    def test_listed(self):
        for table in (RING, PAIR, beside(named("A2"), PAIR)):
            self.refuses(NotFinite(), class_of, change=plain(table))
            self.refuses(NotFinite(), classes, table=table)
            self.refuses(NotFinite(), carrier, change=plain(table), other=plain(table))
        for name in ("A5", "D5", "F4", "H4", "E6"):
            table = named(name)
            error = TooMany(how_many(table))
            self.refuses(error, class_of, change=plain(table))
            self.refuses(error, classes, table=table)
            self.refuses(error, carrier, change=plain(table), other=plain(table))
        # 384 changes are listed, 432 are not.
        self.assertEqual(len(classes(named("B4"))), 20)
        self.refuses(TooMany(432), classes, table=beside(named("G2"), beside(named("A2"), named("A2"))))
        self.assertEqual(math.prod((12, 6, 4)), how_many(beside(named("G2"), beside(named("A2"), chain((2,))))))
        self.assertEqual(len(class_of(Change(named("B4"), (0,)))), 12)


if __name__ == "__main__":
    unittest.main()
