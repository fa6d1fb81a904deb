"""How changes come round: their orders, what they keep, the mirrors that make them, and their classes."""

from wallwalks.changes import both_changes_check, change_check, change_of, in_order, plain
from wallwalks.ends import listed_check, top_of
from wallwalks.fronts import beginnings
from wallwalks.goldens import golden_vector
from wallwalks.kernels import kept_by, shift_by
from wallwalks.limits import MOST_ORDER
from wallwalks.turning import NOUGHT, images_of, marks_by, plain_marks
from wallwalks.walls import pairing_of, walls_all


def order_by(change):
    """The least power, from 1 on, that is plain, 0 if there is none; no finite order is above 60."""
    start = plain_marks(change.table.size)
    marks = start
    for power in range(1, MOST_ORDER + 1):
        marks = marks_by(change.table.bonds, marks, change.word)
        if marks == start:
            return power
    return 0


def order_of(change):
    """The order of a change, 0 if it is endless."""
    change_check(change)
    return order_by(change)


def carried_by(change, other):
    """The change to which the other one carries the first one."""
    both_changes_check(change, other)
    return other * change * other.inverse()


def images_by(change):
    """What a change makes of the axes of the buttons, as tuples of pairs."""
    return images_of(change.table.bonds, change.word)


def kept(change):
    """Free vectors that the change keeps, as many as can be."""
    change_check(change)
    return tuple([golden_vector(vector) for vector in kept_by(images_by(change))])


def shift(change):
    """The number of buttons less the greatest number of free vectors that the change keeps."""
    change_check(change)
    return shift_by(images_by(change))


def lowering(walls, vectors):
    """The first of the walls whose mirror keeps all these vectors."""
    for wall in walls:
        table, column = wall.table, wall.column_pairs
        if all([pairing_of(table, vector, column) == NOUGHT for vector in vectors]):
            return wall
    return None


def mirrors(change):
    """As few walls as can be whose mirrors, one after the other, make the change."""
    change_check(change)
    walls = walls_all(change.table)
    found = []
    while change:
        # A mirror that keeps all that a change keeps makes, times the change, one with a shift that is less by one.
        wall = lowering(walls, kept_by(images_by(change)))
        found.append(wall)
        change = wall.mirror * change
    return tuple(found)


def class_carriers(change):
    """From the first word of each change of the class to a change that carries the given one there."""
    table = change.table
    presses = [change_of(table, (button,)) for button in range(table.size)]
    found = {change.word: plain(table)}
    lot = [change]
    while lot:
        further = []
        for held in lot:
            for press in presses:
                led = press * held * press
                if led.word not in found:
                    found[led.word] = press * found[held.word]
                    further.append(led)
        lot = further
    return found


def class_by(change):
    """The class of a change of a finite table, in order."""
    return in_order([change_of(change.table, word) for word in class_carriers(change)])


def class_of(change):
    """All changes to which the change is carried, in order."""
    change_check(change)
    listed_check(change.table)
    return class_by(change)


def all_changes(table):
    """All changes of a finite table, in order: each begins the top."""
    return beginnings(top_of(table, tuple(range(table.size))))


def classes(table):
    """The first changes of all classes, in order."""
    listed_check(table)
    firsts = []
    known = {}
    for change in all_changes(table):
        if change.word not in known:
            firsts.append(change)
            for word in class_carriers(change):
                known[word] = True
    return tuple(firsts)


def carrier(change, other):
    """A change that carries the first one to the other one; None if there is none."""
    both_changes_check(change, other)
    listed_check(change.table)
    return class_carriers(change).get(other.word, None)
