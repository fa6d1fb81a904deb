"""Points 15 to 19 and the module walls."""

import itertools
import unittest

import oracle
from oracle import CallCase, chance, odd_values, random_ties, random_word
from wallwalks.changes import Change, plain
from wallwalks.crossings import crosses
from wallwalks.ends import degrees
from wallwalks.errors import (
    InvalidButton, InvalidNumber, InvalidWord, NotAChange, NotATable, NotAWall, NotFinite, OtherTable, TooMany,
)
from wallwalks.goldens import Golden
from wallwalks.tables import Table, beside, chain, named
from wallwalks.walls import Wall, leading, meeting, pairing, standing, wall_turned, walls_all, walls_at

RING = named("~A2")
PRODUCTS = {(0, 0): 2, (1, 0): 3, (2, 0): 4, (3, 0): 6, (2, -1): 5, (1, 1): 5}


def some_walls(seed, many, longest=8, most=5):
    rng = chance(seed)
    for _ in range(many):
        kinds = rng.choice((oracle.TIES, (2, 3), (2, 3, 4, 5), (0, 3)))
        table = Table(random_ties(rng, rng.randrange(1, most + 1), kinds))
        word = random_word(rng, table.size, rng.randrange(longest + 1))
        yield rng, table, word, rng.randrange(table.size)


def axes_by_depth(ties, most):
    """The up axes of each depth from 1 to `most`, by the least length of a change that turns them down."""
    size = len(ties)
    layers = [{oracle.axis(size, s) for s in range(size)}]
    seen = set(layers[0])
    # w turns x down and is as short as can be: so its last button turns x to an axis that a shorter one turns down.
    for _ in range(most - 1):
        layer = set()
        for axis in layers[-1]:
            for s in range(size):
                turned = oracle.turn(ties, axis, s)
                if turned not in seen and not oracle.is_down(turned):
                    layer.add(turned)
        seen |= layer
        layers.append(layer)
    return layers


def walls_of(table, depth):
    return [wall for at in range(1, depth + 1) for wall in walls_at(table, at)]


class WallTest(CallCase):
    def test_axes_and_columns(self):
        for _, table, word, button in some_walls(61, 200, 12):
            wall = self.call(Wall, table=table, word=word, button=button)
            self.assertEqual(wall.table, table)
            axis = oracle.turn_by(table.ties, oracle.axis(table.size, button), word)
            column = oracle.turn_column_by(table.ties, oracle.axis(table.size, button), word)
            self.assertIs(oracle.is_down(axis), oracle.is_down(column))
            self.assertEqual(oracle.pairs(wall.axis), oracle.up(axis))
            self.assertEqual(oracle.pairs(wall.column), oracle.up(column))
            self.assertEqual({type(x) for x in wall.axis + wall.column}, {Golden})
            self.assertEqual(oracle.pairing(table.ties, oracle.up(axis), oracle.up(column)), (2, 0))
            self.assertEqual(self.call(pairing, wall=wall, other=wall), Golden(2))
            self.assertIs(bool(wall), True)

    def test_equal_exactly_if_the_axes_are_and_the_mirrors(self):
        for rng, table, word, button in some_walls(62, 300, 4, 3):
            wall = Wall(table, word, button)
            other = Wall(table, random_word(rng, table.size, rng.randrange(4)), rng.randrange(table.size))
            self.assertIs(wall == other, oracle.pairs(wall.axis) == oracle.pairs(other.axis))
            self.assertIs(wall != other, oracle.pairs(wall.axis) != oracle.pairs(other.axis))
            self.assertIs(wall == other, wall.mirror == other.mirror)
            self.assertEqual(wall, Wall(table, word + (button,), button))
        for value in odd_values() + [wall.axis, wall.mirror]:
            self.assertIs(wall == value, False)
            self.assertIs(wall != value, True)
        self.assertNotEqual(Wall(chain((3,)), (), 0), Wall(chain((4,)), (), 0))

    def test_mirrors(self):
        for _, table, word, button in some_walls(63, 150):
            wall = Wall(table, word, button)
            self.assertEqual(wall.mirror, Change(table, word + (button,) + word[::-1]))
            self.assertEqual(wall.mirror.length, 2 * wall.depth - 1)
            self.assertEqual(wall.mirror * wall.mirror, plain(table))
            self.assertEqual(wall.mirror.turned(wall.axis), tuple(-x for x in wall.axis))
            for s in range(table.size):
                x = oracle.axis(table.size, s)
                factor = oracle.pairing(table.ties, x, oracle.pairs(wall.column))
                expected = tuple(oracle.g_add(a, oracle.g_neg(oracle.g_mul(factor, b)))
                                 for a, b in zip(x, oracle.pairs(wall.axis)))
                self.assertEqual(oracle.pairs(wall.mirror.turned(tuple(Golden(*a) for a in x))), expected)

    def test_depths_and_roads(self):
        for table in [table for _, table, _, _ in some_walls(64, 25, 0, 4)] + [named("H3"), named("~G2"), chain((0, 6))]:
            for depth, layer in enumerate(axes_by_depth(table.ties, 4), start=1):
                roads = {}
                for word in itertools.product(range(table.size), repeat=depth - 1):
                    for button in range(table.size):
                        axis = oracle.turn_by(table.ties, oracle.axis(table.size, button), word)
                        roads.setdefault(axis, (word, button))
                found = self.call(walls_at, table=table, depth=depth)
                self.assertEqual({oracle.pairs(wall.axis) for wall in found}, layer)
                self.assertEqual([wall.road for wall in found], sorted(roads[axis] for axis in layer))
                self.assertEqual({wall.depth for wall in found}, {depth} if layer else set())

    def test_buttons_turn_to_the_next_depths(self):
        for _, table, word, button in some_walls(65, 150):
            wall = Wall(table, word, button)
            for s in range(table.size):
                if wall == Wall(table, (), s):
                    self.assertEqual((wall.depth, wall.road), (1, ((), s)))
                    continue
                sign = oracle.g_sign(oracle.level(table.ties, oracle.pairs(wall.axis), s))
                turned = wall_turned(Change(table, (s,)), wall)
                self.assertEqual(turned.depth, wall.depth - sign)
                self.assertIs(turned == wall, sign == 0)
            self.assertIs(any(wall.depth > wall_turned(Change(table, (s,)), wall).depth for s in range(table.size)),
                          wall.depth > 1)
            self.assertEqual(Wall(table, *wall.road), wall)
            self.assertEqual(len(wall.road[0]), wall.depth - 1)

    def test_wall_turned(self):
        for rng, table, word, button in some_walls(66, 150):
            wall = Wall(table, word, button)
            other = random_word(rng, table.size, 6)
            change = Change(table, other)
            found = self.call(wall_turned, change=change, wall=wall)
            self.assertEqual(found, Wall(table, other + word, button))
            self.assertEqual(oracle.pairs(found.column), oracle.pairs(Wall(table, other + word, button).column))
            self.assertEqual(oracle.pairs(found.axis), oracle.up(oracle.turn_by(table.ties, oracle.pairs(wall.axis), other)))

    def test_of_long_changes(self):
        table = chain((0, 3))
        change = Change(table, (0, 1, 2) * 20) ** 10
        wall = wall_turned(change, Wall(table, (), 0))
        self.assertGreater(wall.depth, 61)
        self.assertEqual(wall_turned(change.inverse(), wall), Wall(table, (), 0))
        self.assertEqual(wall.mirror, change * Change(table, (0,)) * change.inverse())
        self.assertEqual(leading(wall, wall).turned(wall.axis), wall.axis)


class TwoWallsTest(CallCase):
    def pairs_of_walls(self):
        for table, depth in (
            (RING, 4), (named("~C2"), 3), (named("~G2"), 4), (named("H3"), 5), (named("B3"), 4), (chain((0,)), 5),
            (chain((6, 3)), 4), (chain((5, 3, 5)), 3), (chain((0, 3)), 4), (Table(oracle.rows_of(3, {(0, 1): 5, (0, 2): 4})), 4),
            (beside(chain((0,)), named("G2")), 4), (named("D4"), 3),
        ):
            some = walls_of(table, depth)
            for x, y in itertools.product(some[:14], some[-14:]):
                yield table, x, y

    def test_pairings(self):
        for table, x, y in self.pairs_of_walls():
            found = self.call(pairing, wall=x, other=y)
            self.assertEqual((found.whole, found.gold), oracle.pairing(table.ties, oracle.pairs(x.axis), oracle.pairs(y.column)))
            self.assertIs(type(found), Golden)
            self.assertEqual(found.sign, pairing(y, x).sign)

    def test_meetings_and_standings(self):
        met = set()
        for table, x, y in self.pairs_of_walls():
            found = self.call(meeting, wall=x, other=y)
            met.add(found)
            both = x.mirror * y.mirror
            power = next((k for k in range(1, 13) if (both ** k) == plain(table)), 0)
            self.assertEqual(found, power)
            there, back = pairing(x, y), pairing(y, x)
            if found > 1:
                self.assertEqual(PRODUCTS[((there * back).whole, (there * back).gold)], found)
            if found == 0:
                self.assertIs((there * back).is_below(4), False)
            stands = self.call(standing, wall=x, other=y)
            if found == 0:
                expected = "facing" if there.sign < 0 else "behind" if x.depth > y.depth else "ahead"
                self.assertNotEqual((stands, x.depth), ("behind", y.depth))
                self.assertEqual(stands, expected)
                other_way = {"facing": "facing", "behind": "ahead", "ahead": "behind"}[stands]
                self.assertEqual(standing(y, x), other_way)
            else:
                self.assertEqual(stands, "same" if x == y else "meet")
        self.assertEqual(met, {0, 1, 2, 3, 4, 5, 6})

    def test_standings_by_the_changes_that_cross(self):
        for table, depth, most in ((RING, 3, 7), (chain((0,)), 4, 8), (chain((0, 3)), 3, 7), (named("~C2"), 2, 7),
                                   (chain((3, 0, 3)), 2, 6), (chain((5, 5)), 2, 8)):
            changes = [Change(table, word) for layer in oracle.changes_by_length(table.ties, most) for word in layer]
            some = walls_of(table, depth)
            crossing = [[crosses(change, wall) for change in changes] for wall in some]
            for (x, over_x), (y, over_y) in itertools.product(zip(some, crossing), repeat=2):
                stands = standing(x, y)
                both = any(a and b for a, b in zip(over_x, over_y))
                x_alone = any(a and not b for a, b in zip(over_x, over_y))
                self.assertTrue(any(over_x))
                if stands == "facing":
                    self.assertFalse(both)
                if stands == "behind":
                    self.assertFalse(x_alone)
                if stands in ("meet", "facing", "ahead"):
                    self.assertTrue(x_alone)

    def test_families_and_leading(self):
        for table in (named("B3"), named("H3"), named("G2"), named("A3"), beside(named("A2"), named("B2")), named("D4"),
                      named("F4"), chain((4, 3, 4))):
            some = walls_of(table, 3)
            for x, y in itertools.product(some[:10], some):
                led = self.call(leading, wall=x, other=y)
                self.assertIs(led is None, x.family != y.family)
                if led is not None:
                    self.assertEqual(led.turned(x.axis), y.axis)

    def test_families_of_finite_tables_by_all_changes(self):
        for name in ("A1", "A3", "B2", "B3", "H2", "H3", "G2"):
            table = named(name)
            changes = [Change(table, word) for layer in oracle.changes_by_length(table.ties, 15) for word in layer]
            for x in walls_all(table):
                turned = [oracle.pairs(change.turned(x.axis)) for change in changes]
                for y in walls_all(table):
                    axis = oracle.pairs(y.axis)
                    expected = axis in turned or tuple(oracle.g_neg(a) for a in axis) in turned
                    self.assertIs(leading(x, y) is not None, expected)
                lowest = min(s for s in range(table.size) if leading(x, Wall(table, (), s)) is not None)
                self.assertEqual(x.family, lowest)

    def test_families_by_ties(self):
        table = Table(oracle.rows_of(6, {(0, 3): 5, (3, 5): 3, (1, 2): 4, (2, 4): 3, (0, 1): 0, (5, 4): 6}))
        self.assertEqual([Wall(table, (), s).family for s in range(6)], [0, 1, 2, 0, 2, 0])
        self.assertEqual(Wall(table, (0, 3, 1), 5).family, 0)
        for s, t in ((5, 0), (0, 5), (3, 3), (4, 2)):
            x, y = Wall(table, (1, 0, 2), s), Wall(table, (4, 5), t)
            self.assertEqual(leading(x, y).turned(x.axis), y.axis)
        self.assertIsNone(leading(Wall(table, (), 1), Wall(table, (), 2)))
        one = Wall(table, (3, 0), 5)
        self.assertEqual(leading(one, one).turned(one.axis), one.axis)


class ListTest(CallCase):
    def test_walls_all(self):
        for name in ("A1", "A4", "B4", "D4", "F4", "G2", "H3", "H4", "E6", "B6"):
            table = named(name)
            found = self.call(walls_all, table=table)
            self.assertEqual(len(found), sum(degree - 1 for degree in degrees(table)))
            keys = [(wall.depth, wall.road) for wall in found]
            self.assertEqual(keys, sorted(set(keys)))
            for depth in range(1, 13):
                self.assertEqual(walls_at(table, depth), tuple(wall for wall in found if wall.depth == depth))
        self.assertEqual(len(walls_all(beside(named("H4"), named("G2")))), 66)
        for table in (RING, chain((0, 3)), beside(named("A2"), chain((0,)))):
            self.refuses(NotFinite(), walls_all, table=table)

    def test_depths_without_walls_and_with_too_many(self):
        self.assertEqual([len(walls_at(chain((5,)), depth)) for depth in range(1, 13)], [2, 2, 1] + [0] * 9)
        self.assertEqual([len(walls_at(chain((0,)), depth)) for depth in range(1, 13)], [2] * 12)
        free = Table(oracle.rows_of(6, {(s, t): 0 for s in range(6) for t in range(s)}))
        self.assertEqual(len(self.call(walls_at, table=free, depth=4)), 750)
        for depth in (5, 6, 12):
            self.refuses(TooMany(1000), walls_at, table=free, depth=depth)
        free = Table(oracle.rows_of(3, {(s, t): 0 for s in range(3) for t in range(s)}))
        self.assertEqual(len(walls_at(free, 9)), 3 * 2 ** 8)
        self.refuses(TooMany(1000), walls_at, table=free, depth=10)

    def test_just_as_many_as_can_be(self):
        for text, depth in (
            ("table: 1 4 5 5 5; 4 1 4 6 3; 5 4 1 4 0; 5 6 4 1 0; 5 3 0 0 1", 5),
            ("table: 1 3 2 4 2; 3 1 4 2 2; 2 4 1 2 6; 4 2 2 1 3; 2 2 6 3 1", 9),
        ):
            table = Table.read(text)
            self.assertEqual(len(axes_by_depth(table.ties, depth)[-1]), 1000)
            self.assertEqual(len(walls_at(table, depth)), 1000)
            self.refuses(TooMany(1000), walls_at, table=table, depth=depth + 1)

    def test_equal_calls_return_equal_things(self):
        self.assertEqual(walls_at(RING, 3), walls_at(Table(RING.ties), 3))


class WrongTest(CallCase):
    def test_wrong_makings(self):
        for value in odd_values():
            self.refuses(NotATable(value), Wall, table=value, word=value, button=value)
            self.refuses(NotATable(value), walls_at, table=value, depth=0)
            self.refuses(NotATable(value), walls_all, table=value)
        for value in odd_values(but=(lambda v: type(v) is tuple,)):
            self.refuses(InvalidWord(None), Wall, table=RING, word=value, button="x")
        self.refuses(InvalidWord(1), Wall, table=RING, word=(0, 3, 4), button="x")
        self.refuses(InvalidWord(60), Wall, table=RING, word=(0,) * 61, button="x")
        for value in odd_values(but=(lambda v: type(v) is int and 0 <= v < 3,)) + [3]:
            self.refuses(InvalidButton(value), Wall, table=RING, word=(0,) * 60, button=value)
        for value in odd_values(but=(lambda v: type(v) is int and 1 <= v <= 12,)) + [0, 13]:
            self.refuses(InvalidNumber(value), walls_at, table=RING, depth=value)

    def test_wrong_walls_and_changes(self):
        wall, change = Wall(RING, (), 0), Change(RING, (0,))
        for value in odd_values() + [RING, change]:
            for function in (pairing, meeting, standing, leading):
                self.refuses(NotAWall(value), function, wall=value, other=None)
                self.refuses(NotAWall(value), function, wall=wall, other=value)
            self.refuses(NotAWall(value), wall_turned, change=change, wall=value)
        for value in odd_values() + [wall]:
            self.refuses(NotAChange(value), wall_turned, change=value, wall=value)
        other = Wall(chain((3,)), (), 0)
        for function in (pairing, meeting, standing, leading):
            self.refuses(OtherTable(), function, wall=wall, other=other)
        self.refuses(OtherTable(), wall_turned, change=change, wall=other)


if __name__ == "__main__":
    unittest.main()
