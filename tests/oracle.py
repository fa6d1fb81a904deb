"""What the tests compare with: slow ways straight from the document's words, and calls in both manners.

Nothing here uses the package's own reckoning: words are compared by steps
alone, golden numbers are pairs (a, b) with a sign found by fractions, and
vectors are turned by the definition of levels.
"""

import random
import unittest
from fractions import Fraction

TIES = (0, 2, 3, 4, 5, 6)


class Odd:
    """A value that does not want to be compared or tested."""

    def __eq__(self, other):
        raise RuntimeError("compared")

    def __bool__(self):
        raise RuntimeError("tested")

    def __len__(self):
        raise RuntimeError("measured")


ODD_VALUES = (
    None, True, False, "", "x", "0", "A1 ", b"0", -1, 7, 99, 10 ** 59, -(10 ** 59), (), (0, True), ("swap",),
    [], [0], [1, 2], {}, {0: 1}, {1}, frozenset(), range(2), object(), Odd(), (Odd(),), (Odd(), Odd()), len, int, ((((),),),),
)


def odd_values(but=()):
    """The odd values but those at the places told by a test of each."""
    return [value for value in ODD_VALUES if not any(is_one(value) for is_one in but)]


def rows_of(size, links):
    """Rows of ties: 2 but for the links {(s, t): tie}."""
    rows = [[1 if s == t else 2 for t in range(size)] for s in range(size)]
    for (s, t), tie in links.items():
        rows[s][t] = rows[t][s] = tie
    return tuple(tuple(row) for row in rows)


def random_ties(rng, size, kinds=TIES):
    """Rows of ties by chance."""
    return rows_of(size, {(s, t): rng.choice(kinds) for s in range(size) for t in range(s)})


def random_word(rng, size, length):
    """A word by chance."""
    return tuple(rng.randrange(size) for _ in range(length))


# Golden numbers as pairs.

def g_add(x, y):
    return (x[0] + y[0], x[1] + y[1])


def g_mul(x, y):
    a, b = x
    c, d = y
    return (a * c + b * d, a * d + b * c + b * d)


def g_neg(x):
    return (-x[0], -x[1])


def g_sign(x):
    """The sign, by nearer and nearer bounds of g: ratios of Fibonacci numbers."""
    a, b = x
    if b == 0:
        return (a > 0) - (a < 0)
    low, high = Fraction(1), Fraction(2)
    p, q = 1, 1
    while True:
        p, q = p + q, p
        ratio = Fraction(p, q)
        if ratio * ratio < ratio + 1:
            low = max(low, ratio)
        else:
            high = min(high, ratio)
        ends = (a + b * low, a + b * high)
        if min(ends) > 0:
            return 1
        if max(ends) < 0:
            return -1


# Vectors by the definition.

def weight(ties, s, t):
    """A(s, t) of point 11."""
    if s == t:
        return (2, 0)
    return {
        2: (0, 0), 3: (-1, 0), 5: (0, -1), 0: (-2, 0),
        4: (-1, 0) if s < t else (-2, 0), 6: (-1, 0) if s < t else (-3, 0),
    }[ties[s][t]]


def level(ties, vector, s):
    total = (0, 0)
    for t in range(len(ties)):
        total = g_add(total, g_mul(weight(ties, s, t), vector[t]))
    return total


def turn(ties, vector, s):
    made = list(vector)
    made[s] = g_add(vector[s], g_neg(level(ties, vector, s)))
    return tuple(made)


def turn_column(ties, column, s):
    total = (0, 0)
    for t in range(len(ties)):
        total = g_add(total, g_mul(weight(ties, t, s), column[t]))
    made = list(column)
    made[s] = g_add(column[s], g_neg(total))
    return tuple(made)


def turn_by(ties, vector, word):
    for s in reversed(word):
        vector = turn(ties, vector, s)
    return vector


def turn_column_by(ties, column, word):
    for s in reversed(word):
        column = turn_column(ties, column, s)
    return column


def axis(size, s):
    return tuple((1, 0) if t == s else (0, 0) for t in range(size))


def images(ties, word):
    return tuple(turn_by(ties, axis(len(ties), s), word) for s in range(len(ties)))


def is_down(vector):
    signs = {g_sign(x) for x in vector}
    if -1 in signs and 1 in signs:
        raise AssertionError(f"neither up nor down: {vector}")
    return -1 in signs


def up(vector):
    return tuple(g_neg(x) for x in vector) if is_down(vector) else vector


def pairing(ties, x, column):
    total = (0, 0)
    for s in range(len(ties)):
        total = g_add(total, g_mul(column[s], level(ties, x, s)))
    return total


def pairs(goldens):
    """A vector of Goldens as pairs."""
    return tuple((x.whole, x.gold) for x in goldens)


def g_inverse(x):
    """The ratio 1 / x, with fractions: (a + b * g) times (a + b - b * g) is a whole number."""
    a, b = x
    norm = Fraction(a * a + a * b - b * b)
    return ((a + b) / norm, -b / norm)


def rank(rows):
    """How many of some vectors of golden numbers are free, at most."""
    rows = [tuple(row) for row in rows]
    found = 0
    while rows:
        row = rows.pop()
        at = next((k for k, x in enumerate(row) if x != (0, 0)), None)
        if at is None:
            continue
        found += 1
        scale = g_inverse(row[at])
        rows = [tuple(g_add(x, g_neg(g_mul(g_mul(other[at], scale), y))) for x, y in zip(other, row)) for other in rows]
    return found


def shift(ties, word):
    """How many free vectors w(x) - x there are: as many as buttons less the free kept vectors."""
    return rank([tuple(g_add(x, g_neg(y)) for x, y in zip(image, axis(len(ties), s)))
                 for s, image in enumerate(images(ties, word))])


# Words by steps alone.

def swapped_words(ties, word):
    for at in range(len(word) - 1):
        s, t = word[at], word[at + 1]
        m = ties[s][t]
        if s != t and m and word[at:at + m] == tuple((s, t)[k % 2] for k in range(m)):
            yield word[:at] + tuple((t, s)[k % 2] for k in range(m)) + word[at + m:]


def least_words(ties, word):
    """All least words of a word's change, ascending, by swaps and drops."""
    lot = {word}
    edge = [word]
    while edge:
        word = edge.pop()
        for at in range(len(word) - 1):
            if word[at] == word[at + 1]:
                return least_words(ties, word[:at] + word[at + 2:])
        for other in swapped_words(ties, word):
            if other not in lot:
                lot.add(other)
                edge.append(other)
    return tuple(sorted(lot))


def first_word(ties, word):
    return least_words(ties, word)[0]


def changes_by_length(ties, most):
    """The first words of all changes of each length from 0 to `most`, by the images of the changes."""
    size = len(ties)
    start = images(ties, ())
    layers = [{start: ()}]
    before = {}
    for _ in range(most):
        layer = {}
        for key, word in layers[-1].items():
            for s in range(size):
                further = word + (s,)
                # w * s turns the axis of t to w(axis t) less A(s, t) times w(axis s).
                made = tuple(
                    tuple(g_add(x, g_neg(g_mul(weight(ties, s, t), y))) for x, y in zip(key[t], key[s]))
                    for t in range(size)
                )
                if made in before or made in layers[-1]:
                    continue
                if made not in layer or further < layer[made]:
                    layer[made] = further
        before = layers[-1]
        layers.append(layer)
    return [sorted(layer.values()) for layer in layers]


class CallCase(unittest.TestCase):
    """Tests that call each function by position and by name."""

    def call(self, function, **arguments):
        """What a call returns, the same by position, by name and in both manners at once."""
        by_place = function(*arguments.values())
        by_name = function(**arguments)
        self.assertEqual(by_place, by_name)
        if len(arguments) > 1:
            (_, first), *others = arguments.items()
            self.assertEqual(by_place, function(first, **dict(reversed(others))))
        return by_place

    def refuses(self, error, function, **arguments):
        """Both manners of a call raise an error of the class of `error`, with its attributes."""
        for call in (lambda: function(*arguments.values()), lambda: function(**arguments)):
            with self.assertRaises(type(error)) as caught:
                call()
            self.assertIs(type(caught.exception), type(error))
            told = vars(caught.exception)
            self.assertEqual(sorted(told), sorted(vars(error)))
            for name, value in vars(error).items():
                if isinstance(value, int):
                    self.assertIs(type(told[name]), type(value))
                    self.assertEqual(told[name], value)
                else:
                    self.assertIs(told[name], value)


def chance(seed):
    """A source of chance that always gives the same."""
    return random.Random(seed)
