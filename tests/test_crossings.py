"""Points 20, 21, what point 18 tells of walls together, and the module crossings."""

import itertools
import unittest

import oracle
from oracle import CallCase, chance, odd_values, random_ties, random_word
from wallwalks.changes import Change, plain
from wallwalks.crossings import crossed, crosses, crossing, passed, place_of
from wallwalks.ends import top
from wallwalks.errors import InvalidWalls, InvalidWord, NotAChange, NotATable, NotAWall, OtherTable
from wallwalks.steps import is_least
from wallwalks.tables import Table, beside, chain, named
from wallwalks.walls import Wall, standing, wall_turned, walls_all, walls_at

RING = named("~A2")


def some_words(seed, many, longest=9, most=5):
    rng = chance(seed)
    for _ in range(many):
        kinds = rng.choice((oracle.TIES, (2, 3), (2, 3, 4, 5), (0, 3)))
        table = Table(random_ties(rng, rng.randrange(1, most + 1), kinds))
        yield rng, table, random_word(rng, table.size, rng.randrange(longest + 1))


def axes_passed(ties, word):
    return [oracle.up(oracle.turn_by(ties, oracle.axis(len(ties), s), word[:at])) for at, s in enumerate(word)]


def axis_of(wall):
    return oracle.pairs(wall.axis)


class CrossingTest(CallCase):
    def test_which_walls_a_word_passes(self):
        for _, table, word in some_words(71, 200, 20):
            found = self.call(passed, table=table, word=word)
            self.assertEqual([axis_of(wall) for wall in found], axes_passed(table.ties, word))
            for at, wall in enumerate(found):
                self.assertEqual(wall, Wall(table, word[:at], word[at]))
                self.assertEqual(oracle.pairs(wall.column), oracle.pairs(Wall(table, word[:at], word[at]).column))
            self.assertIs(is_least(table, word), len(set(axes_passed(table.ties, word))) == len(word))

    def test_which_walls_a_change_crosses(self):
        for _, table, word in some_words(72, 150):
            change = Change(table, word)
            found = self.call(crossed, change=change)
            self.assertEqual([axis_of(wall) for wall in found], axes_passed(table.ties, change.word))
            self.assertEqual(len(found), change.length)
            axes = axes_passed(table.ties, word)
            odd = {axis for axis in axes if axes.count(axis) % 2}
            self.assertEqual({axis_of(wall) for wall in found}, odd)
            if not change:
                self.assertEqual(found, ())
            for wall in [wall for depth in (1, 2, 3) for wall in walls_at(table, depth)] + list(found):
                there = oracle.is_down(oracle.turn_by(table.ties, axis_of(wall), word[::-1]))
                self.assertIs(self.call(crosses, change=change, wall=wall), there)
                at = self.call(place_of, change=change, wall=wall)
                self.assertEqual(at, found.index(wall) if there else None)

    def test_the_mirror_times_the_change(self):
        for _, table, word in some_words(73, 100):
            change = Change(table, word)
            for wall in walls_at(table, 1) + walls_at(table, 2) + crossed(change):
                at = place_of(change, wall)
                if at is None:
                    self.assertGreater((wall.mirror * change).length, change.length)
                else:
                    shorter = change.word[:at] + change.word[at + 1:]
                    self.assertEqual(wall.mirror * change, Change(table, shorter))

    def test_products(self):
        for rng, table, word in some_words(74, 150):
            u, w = Change(table, word), Change(table, random_word(rng, table.size, 7))
            first = {axis_of(wall) for wall in crossed(u)}
            second = {axis_of(wall_turned(u, wall)) for wall in crossed(w)}
            self.assertEqual({axis_of(wall) for wall in crossed(u * w)}, first ^ second)

    def test_same_walls_same_change(self):
        for table in (RING, chain((0, 5)), named("B3")):
            found = {}
            for layer in oracle.changes_by_length(table.ties, 6):
                for word in layer:
                    key = frozenset(map(axis_of, crossed(Change(table, word))))
                    self.assertNotIn(key, found)
                    found[key] = word

    def test_walls_together(self):
        faced = behind = 0
        for _, table, word in some_words(75, 60, 14, 4):
            change = Change(table, word)
            walls = crossed(change)
            near = [wall for depth in (1, 2, 3) for wall in walls_at(table, depth)]
            for x in walls:
                for y in near:
                    stands = standing(x, y)
                    if stands == "facing":
                        faced += 1
                        self.assertNotIn(y, walls)
                    if stands == "behind":
                        behind += 1
                        self.assertIn(y, walls)
        self.assertGreater(min(faced, behind), 20)

    def test_long_changes(self):
        table = chain((0, 3, 5))
        change = Change(table, (0, 1, 2, 3) * 15) ** 4
        walls = crossed(change)
        self.assertEqual(len(walls), 240)
        self.assertEqual(len({axis_of(wall) for wall in walls}), 240)
        for at in (0, 7, 100, 239):
            self.assertEqual(place_of(change, walls[at]), at)
            self.assertIs(crosses(change.inverse(), wall_turned(change.inverse(), walls[at])), True)


class JustGivenWallsTest(CallCase):
    def test_of_changes(self):
        for rng, table, word in some_words(76, 150, 12):
            change = Change(table, word)
            walls = list(crossed(change))
            rng.shuffle(walls)
            self.assertEqual(self.call(crossing, table=table, walls=tuple(walls)), change)
        self.assertEqual(self.call(crossing, table=RING, walls=()), plain(RING))

    def test_all_lots_of_walls(self):
        for table, walls in (
            (RING, walls_at(RING, 1) + walls_at(RING, 2) + walls_at(RING, 3)[:1]), (named("B2"), walls_all(named("B2"))),
            (named("A3"), walls_all(named("A3"))), (chain((0,)), walls_at(chain((0,)), 1) + walls_at(chain((0,)), 2)),
            (chain((5,)), walls_all(chain((5,)))),
        ):
            by_walls = {}
            for layer in oracle.changes_by_length(table.ties, len(walls)):
                for word in layer:
                    by_walls[frozenset(axes_passed(table.ties, word))] = word
            for many in range(len(walls) + 1):
                for lot in itertools.combinations(walls, many):
                    found = self.call(crossing, table=table, walls=lot)
                    expected = by_walls.get(frozenset(map(axis_of, lot)))
                    self.assertEqual(None if found is None else found.word, expected)

    def test_as_many_as_can_be(self):
        table = beside(named("H4"), named("G2"))
        walls = walls_all(table)
        self.assertEqual(len(walls), 66)
        self.assertEqual(crossing(table, walls), top(table))
        self.assertEqual(crossing(table, walls[1:]), Change(table, walls[0].road[0] + (walls[0].road[1],)) * top(table))
        self.assertIsNone(crossing(table, walls[2:]))

    def test_wrong_walls(self):
        some = crossed(Change(chain((0,)), (0, 1) * 30)) + crossed(Change(chain((0,)), (1, 0) * 30))
        table = chain((0,))
        for value in odd_values(but=(lambda v: type(v) is tuple,)) + [list(some[:3]), some[0]]:
            self.refuses(InvalidWalls(None), crossing, table=table, walls=value)
        for value in odd_values() + [Wall(RING, (), 0), table]:
            for at in (0, 1, 65):
                self.refuses(InvalidWalls(at), crossing, table=table, walls=some[:at] + (value, "x") + some[:2])
        self.refuses(InvalidWalls(3), crossing, table=table, walls=some[:3] + some[1:4])
        self.refuses(InvalidWalls(66), crossing, table=table, walls=some[:67])
        self.refuses(InvalidWalls(66), crossing, table=table, walls=some[:66] + ("x",) * 3)
        self.assertIsNone(crossing(table, some[:66]))
        self.assertEqual(crossing(table, some[:60]), Change(table, (0, 1) * 30))


class WrongTest(CallCase):
    def test_wrong_tables_and_words(self):
        for value in odd_values():
            self.refuses(NotATable(value), passed, table=value, word=value)
            self.refuses(NotATable(value), crossing, table=value, walls=value)
        for value in odd_values(but=(lambda v: type(v) is tuple,)):
            self.refuses(InvalidWord(None), passed, table=RING, word=value)
        for word, at in (((0, 3), 1), ((True,), 0), ((0,) * 61, 60), ((0,) * 59 + ("x",) * 5, 59)):
            self.refuses(InvalidWord(at), passed, table=RING, word=word)

    def test_wrong_changes_and_walls(self):
        wall, change = Wall(RING, (), 0), Change(RING, (0,))
        for value in odd_values() + [RING, wall]:
            self.refuses(NotAChange(value), crossed, change=value)
            for function in (crosses, place_of):
                self.refuses(NotAChange(value), function, change=value, wall=None)
        for value in odd_values() + [RING, change]:
            for function in (crosses, place_of):
                self.refuses(NotAWall(value), function, change=change, wall=value)
        for function in (crosses, place_of):
            self.refuses(OtherTable(), function, change=change, wall=Wall(chain((3,)), (), 0))


if __name__ == "__main__":
    unittest.main()
