"""Which vectors rows of golden numbers lead to nought, and what changes keep; numbers are pairs (module turning).

A row leads a vector to the sum of its numbers, each times that of the vector
at the same place. Pivots are pairs of a place and a row with another number
than 0 there, all rows having 0 at the places of the other pivots.
"""

from math import gcd

from wallwalks.turning import NOUGHT, ONE, axes_of, pair_product


def without_shared(row):
    """The row, divided by the greatest whole number that divides all parts of its numbers."""
    shared = 0
    for whole, gold in row:
        shared = gcd(shared, gcd(whole, gold))
    if shared < 2:
        return row
    return tuple([(whole // shared, gold // shared) for whole, gold in row])


def cleared(row, pivot, at):
    """A multiple of the row, less one of the pivot's row, such that 0 stands at the pivot's place."""
    made = []
    for here, there in zip(row, pivot):
        x, y = pair_product(here, pivot[at])
        a, b = pair_product(there, row[at])
        made.append((x - a, y - b))
    return without_shared(tuple(made))


def pivots_of(rows, size):
    """The pivots whose rows lead the same vectors to nought as these rows do; no fewer rows do that."""
    pivots = []
    for at in range(size):
        filled = [row for row in rows if row[at] != NOUGHT]
        if filled:
            pivot = filled[0]
            pivots = [(place, cleared(row, pivot, at)) for place, row in pivots] + [(at, pivot)]
            rows = [row for row in rows if row[at] == NOUGHT] + [cleared(row, pivot, at) for row in filled[1:]]
    return pivots


def scale_but(pivots, left_out):
    """The product of the numbers of all pivots at their own places but that of one place."""
    made = ONE
    for place, row in pivots:
        if place != left_out:
            made = pair_product(made, row[place])
    return made


def free_vector(pivots, size, at):
    """The vector that the pivots' rows lead to nought, with 0 at all places without pivot but this one."""
    numbers = {at: scale_but(pivots, at)}
    for place, row in pivots:
        whole, gold = pair_product(row[at], scale_but(pivots, place))
        numbers[place] = (-whole, -gold)
    return without_shared(tuple([numbers.get(place, NOUGHT) for place in range(size)]))


def keeping_rows(images):
    """The rows that lead just the vectors to nought that a change with these images keeps."""
    size = len(images)
    return [
        tuple([(image[s][0] - axis[s][0], image[s][1] - axis[s][1]) for image, axis in zip(images, axes_of(size))])
        for s in range(size)
    ]


def kept_by(images):
    """Free vectors that a change with these images keeps, as many as can be."""
    size = len(images)
    pivots = pivots_of(keeping_rows(images), size)
    held = [place for place, _ in pivots]
    return tuple([free_vector(pivots, size, at) for at in range(size) if at not in held])


def shift_by(images):
    """The shift of a change with these images."""
    return len(pivots_of(keeping_rows(images), len(images)))
