"""How buttons turn vectors, with golden numbers held as plain pairs.

A pair (a, b) stands for a + b * g, and a vector here is a tuple of pairs:
they are quickly reckoned with, and may be keys of a dict. The bonds of a table
are, for each button s, the triples (t, a, b) of all buttons t tied with s,
a + b * g being the opposite of the weight A(s, t). Its cobonds are likewise,
with the weight A(t, s); by these in the place of bonds, columns are turned.

The marks of a change are, for each button s, the sum of the entries of the
vector to which the inverse of the change turns the axis of s. That vector is
up or down, so a mark is below 0 exactly if its button is a front button. As
front buttons lead to the first word, changes with the same marks are the same.
"""

NOUGHT = (0, 0)
ONE = (1, 0)


def pair_sign(whole, gold):
    """The sign of whole + gold * g."""
    twice = 2 * whole + gold
    if gold == 0 or twice * twice >= 5 * gold * gold:
        decisive = twice
    else:
        decisive = gold
    if decisive == 0:
        return 0
    return 1 if decisive > 0 else -1


def pair_product(left, right):
    """The product of two pairs."""
    whole, gold = left
    other_whole, other_gold = right
    both = gold * other_gold
    return (whole * other_whole + both, whole * other_gold + gold * other_whole + both)


def axis_of(size, button):
    """The axis, or the column, of a button."""
    return tuple([ONE if s == button else NOUGHT for s in range(size)])


def opposite(vector):
    """The opposite of a vector."""
    return tuple([(-whole, -gold) for whole, gold in vector])


def is_down(vector):
    """Whether a vector that is up or down is down."""
    return any([pair_sign(whole, gold) < 0 for whole, gold in vector])


def turned(bonds, vector, button):
    """The vector to which a button turns it."""
    whole, gold = vector[button]
    whole, gold = -whole, -gold
    for t, a, b in bonds[button]:
        x, y = vector[t]
        whole = whole + a * x + b * y
        gold = gold + b * x + (a + b) * y
    return vector[:button] + ((whole, gold),) + vector[button + 1:]


def turned_by(bonds, vector, word):
    """The vector to which the change of a word turns it, the last button first."""
    for button in reversed(list(word)):
        vector = turned(bonds, vector, button)
    return vector


def level_at(bonds, vector, button):
    """The level of a vector at a button."""
    whole, gold = vector[button]
    new_whole, new_gold = turned(bonds, vector, button)[button]
    return (whole - new_whole, gold - new_gold)


def lowest_raised(bonds, axis):
    """The lowest button at which the level of a vector is above 0; None if there is none."""
    for button in range(len(axis)):
        whole, gold = level_at(bonds, axis, button)
        if pair_sign(whole, gold) > 0:
            return button
    return None


def spread_by(bonds, vectors, button):
    """From what a change u makes of the axes of the buttons, what u * button makes of them.

    The button turns the axis of t to that axis less A(button, t) times its own.
    """
    own = vectors[button]
    made = list(vectors)
    made[button] = opposite(own)
    for t, a, b in bonds[button]:
        share = [pair_product((a, b), pair) for pair in own]
        made[t] = tuple([(x + p, y + q) for (x, y), (p, q) in zip(vectors[t], share)])
    return tuple(made)


def axes_of(size):
    """What the plain change makes of the axes of the buttons."""
    return tuple([axis_of(size, button) for button in range(size)])


def images_of(bonds, word):
    """What the change of a word makes of the axes of the buttons."""
    vectors = axes_of(len(bonds))
    for button in word:
        vectors = spread_by(bonds, vectors, button)
    return vectors


def plain_marks(size):
    """The marks of the plain change."""
    return (ONE,) * size


def marks_ahead(bonds, marks, button):
    """From the marks of a change w, those of button * w."""
    whole, gold = marks[button]
    made = list(marks)
    made[button] = (-whole, -gold)
    for t, a, b in bonds[button]:
        x, y = marks[t]
        made[t] = (x + a * whole + b * gold, y + b * whole + (a + b) * gold)
    return tuple(made)


def marks_by(bonds, marks, word):
    """From the marks of a change w, those of the word's change times w."""
    for button in reversed(list(word)):
        marks = marks_ahead(bonds, marks, button)
    return marks


def is_front(marks, button):
    """Whether a button is a front button of the change with these marks."""
    whole, gold = marks[button]
    return pair_sign(whole, gold) < 0


def downs(marks):
    """The buttons with marks below 0: the front buttons, ascending."""
    return tuple([s for s, (whole, gold) in enumerate(marks) if pair_sign(whole, gold) < 0])


def first_word_of(bonds, marks):
    """The first word of the change with these marks."""
    word = []
    fronts = downs(marks)
    while fronts:
        word.append(fronts[0])
        marks = marks_ahead(bonds, marks, fronts[0])
        fronts = downs(marks)
    return tuple(word)
