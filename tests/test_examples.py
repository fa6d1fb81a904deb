"""The examples that the document prints, as they stand there: each block goes on from those ahead of it."""

import unittest

GOLDENS = """
>>> from wallwalks.goldens import Golden, golden
>>> x = Golden(-1, 1)
>>> [(x * x).text, (x * Golden(0, 1)).text, (2 - x).text, x.sign, Golden(-2, 1).sign, x.is_below(1), (Golden(0, 1) ** 3).text, Golden.read("0-1g").gold, golden(3).text]
['2-1g', '1', '3-1g', 1, -1, True, '1+2g', -1, '3']
>>> Golden(True)
raises InvalidNumber(given=True)
"""

CHANGES = """
>>> from wallwalks.changes import Change, least_words, parting, plain
>>> from wallwalks.tables import Table, chain, likeness, named, part
>>> t = chain((3, 4))
>>> w = Change(t, (2, 1, 2, 1, 0, 0))
>>> [w.word, w.length, w.fronts, w.backs, (w * Change(t, (2,))).word, w.inverse() == w, w.parity, bool(plain(t))]
[(1, 2, 1, 2), 4, (1, 2), (1, 2), (1, 2, 1), True, 0, False]
>>> images = Change(chain((4,)), (0, 1)).images
>>> [images[0][0].text, images[0][1].text, images[1][0].text, images[1][1].text]
['1', '2', '-1', '-1']
>>> [least_words(Change(chain((3, 3)), (0, 2, 1))), parting(w, plain(t)), t.text, likeness(named("B3"), chain((4, 3))), part(t, (0, 2)).pieces]
[((0, 2, 1), (2, 0, 1)), 0, 'table: 1 3 2; 3 1 4; 2 4 1', (2, 1, 0), ((0,), (1,))]
"""

COUNTS = """
>>> from wallwalks.counts import counts, growth, how_many_at, how_many_by, room_polynomial, speed
>>> from wallwalks.ends import climbing, degrees, how_many, kinds, names, top
>>> ring, free = named("~A2"), Table(((1, 0, 0), (0, 1, 0), (0, 0, 1)))
>>> [growth(ring), counts(ring, 5), growth(free), how_many_at(free, 5), how_many_by(free, 10 ** 18, 5), speed(ring), speed(free), speed(t)]
[((1, 1, 1), (1, -2, 1)), (1, 3, 6, 9, 12), ((1, 1), (1, -2)), 48, 4, ('power', 2), ('faster', 0), ('ends', 48)]
>>> [kinds(free), names(t), how_many(t), degrees(t), top(t).length, climbing(ring), room_polynomial(t, (0, 1))]
[('wild',), ('B3',), 48, (2, 4, 6), 9, (0, 1, 2), (1, 2, 2, 1)]
"""

WALLS = """
>>> from wallwalks.tables import Table, chain, named
>>> from wallwalks.walls import Wall, meeting, standing, walls_at
>>> ring, square, two, pair, apart = named("~A2"), chain((4,)), chain((3,)), chain((0,)), chain((2,))
>>> x, y = Wall(ring, (), 2), Wall(ring, (0,), 1)
>>> [y.depth, y.road, y.mirror.word, meeting(x, y), standing(x, y), standing(Wall(ring, (0, 1), 2), Wall(ring, (), 0)), len(walls_at(ring, 2)), len(walls_at(ring, 3))]
[2, ((0,), 1), (0, 1, 0), 0, 'facing', 'behind', 3, 3]
>>> [meeting(Wall(square, (), 0), Wall(square, (1,), 0)), meeting(Wall(square, (), 0), Wall(square, (), 1)), Wall(square, (1,), 0).axis[1].text, Wall(square, (1,), 0).column[1].text]
[2, 4, '2', '1']
"""

CROSSINGS = """
>>> from wallwalks.changes import Change
>>> from wallwalks.crossings import crossed, crossing, passed, place_of
>>> long_one = Change(ring, (0, 1, 0))
>>> [crossed(long_one)[1].road, crossed(long_one)[2].road, place_of(long_one, Wall(ring, (), 1)), passed(ring, (0, 1, 0, 1))[3] == Wall(ring, (), 0)]
[((0,), 1), ((), 1), 2, True]
>>> [crossing(ring, (Wall(ring, (), 0), Wall(ring, (), 1))), crossing(ring, (Wall(ring, (0,), 1), Wall(ring, (), 0))).word]
[None, (0, 1)]
"""

BLOCKS = (GOLDENS, CHANGES, COUNTS, WALLS, CROSSINGS)


def told_of(error):
    """An error as the document writes it."""
    attributes = ", ".join(f"{name}={value!r}" for name, value in vars(error).items())
    return f"raises {type(error).__name__}({attributes})"


def done(line, names):
    """What a line shows when it is done, None if it shows nothing."""
    try:
        value = eval(line, names)
    except SyntaxError:
        exec(line, names)
        return None
    except Exception as error:
        return told_of(error)
    return None if value is None else repr(value)


class ExampleTest(unittest.TestCase):
    def test_blocks(self):
        names = {}
        for block in BLOCKS:
            lines = block.strip().split("\n")
            for at, line in enumerate(lines):
                if line.startswith(">>> "):
                    behind = lines[at + 1] if at + 1 < len(lines) else ">>> "
                    expected = None if behind.startswith(">>> ") else behind
                    self.assertEqual(done(line[4:], names), expected, line)


if __name__ == "__main__":
    unittest.main()
