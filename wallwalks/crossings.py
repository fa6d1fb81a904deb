"""Crossings: which walls changes and words cross, and the changes that cross just given walls."""

from wallwalks.changes import change_check, change_of, tables_check
from wallwalks.errors import InvalidWalls
from wallwalks.refusals import word_check
from wallwalks.tables import table_check
from wallwalks.turning import axes_of, axis_of, spread_by, turned
from wallwalks.walls import Wall, wall_check, with_pairs

# No finite table has more walls.
MOST_WALLS = 66


def place_in(change, wall):
    """The place at which the first word passes the wall; None if it does not.

    The change of the buttons ahead turns the axis of the button there to the
    wall's axis exactly if, undone, it turns the wall's axis to the button's.
    """
    table = change.table
    axis = wall.axis_pairs
    for at, button in enumerate(change.word):
        if axis == axis_of(table.size, button):
            return at
        axis = turned(table.bonds, axis, button)
    return None


def change_and_one_check(change, wall):
    """Refuse what is not a change and a wall of one table."""
    change_check(change)
    wall_check(wall)
    tables_check(change, wall)


def crosses(change, wall):
    """Whether the inverse of the change turns the wall's axis down."""
    change_and_one_check(change, wall)
    return place_in(change, wall) is not None


def passed_by(table, word):
    """The walls that a word of any length passes, place by place."""
    axes = axes_of(table.size)
    columns = axes
    found = []
    for button in word:
        found.append(with_pairs(table, axes[button], columns[button]))
        axes = spread_by(table.bonds, axes, button)
        columns = spread_by(table.cobonds, columns, button)
    return tuple(found)


def crossed(change):
    """The walls that a change crosses, in the order in which its first word passes them."""
    change_check(change)
    return passed_by(change.table, change.word)


def passed(table, word):
    """The walls that a word passes, place by place."""
    table_check(table)
    word_check(table, word)
    return passed_by(table, word)


def place_of(change, wall):
    """The place at which the first word passes the wall; None if the change does not cross it."""
    change_and_one_check(change, wall)
    return place_in(change, wall)


def walls_check(table, walls):
    """Refuse what is no tuple of at most 66 unlike walls of the table."""
    if not isinstance(walls, tuple):
        raise InvalidWalls(None)
    ahead = {}
    for at, wall in enumerate(walls):
        if at == MOST_WALLS or not isinstance(wall, Wall) or wall.table != table or wall.axis_pairs in ahead:
            raise InvalidWalls(at)
        ahead[wall.axis_pairs] = True


def crossing(table, walls):
    """The change that crosses just these walls; None if there is none."""
    table_check(table)
    walls_check(table, walls)
    left = [wall.axis_pairs for wall in walls]
    word = []
    fronts = [button for button in range(table.size) if axis_of(table.size, button) in left]
    while fronts:
        own = axis_of(table.size, fronts[0])
        word.append(fronts[0])
        left = [turned(table.bonds, axis, fronts[0]) for axis in left if axis != own]
        fronts = [button for button in range(table.size) if axis_of(table.size, button) in left]
    return None if left else change_of(table, tuple(word))
