"""Walls: up axes with their columns, how two of them stand, and lists of them."""

from wallwalks.changes import change_check, change_of, tables_check
from wallwalks.ends import finite_check
from wallwalks.errors import NotAWall, TooMany
from wallwalks.goldens import Golden, golden_vector
from wallwalks.limits import MOST_DEPTH, MOST_LOT
from wallwalks.refusals import button_check, number_check, word_check
from wallwalks.steps import stretch
from wallwalks.tables import reached, table_check
from wallwalks.turning import (
    NOUGHT, ONE, axis_of, is_down, level_at, lowest_raised, opposite, pair_product, pair_sign, turned, turned_by,
)

ODD_TIES = (3, 5)

# The product of the pairings of two walls that meet, and the power of the product of the mirrors that is plain.
MEETINGS = {(0, 0): 2, (1, 0): 3, (2, 0): 4, (3, 0): 6, (2, -1): 5, (1, 1): 5}


class Wall:
    """The wall of the axis, or of its opposite, to which a word's change turns the axis of a button.

    Its up axis and the column of that are kept as tuples of pairs.
    """

    def __init__(self, table, word, button):
        table_check(table)
        word_check(table, word)
        button_check(table, button)
        start = axis_of(table.size, button)
        axis = turned_by(table.bonds, start, word)
        column = turned_by(table.cobonds, start, word)
        is_other = is_down(axis)
        self._table = table
        self.axis_pairs = opposite(axis) if is_other else axis
        self.column_pairs = opposite(column) if is_other else column

    @property
    def table(self):
        """The table."""
        return self._table

    @property
    def axis(self):
        """The up axis."""
        return golden_vector(self.axis_pairs)

    @property
    def column(self):
        """The column of the up axis."""
        return golden_vector(self.column_pairs)

    @property
    def depth(self):
        """The least length of a change that turns the axis down."""
        return len(road_of(self._table, self.axis_pairs)[0]) + 1

    @property
    def road(self):
        """The first pair of a word and a button that leads to the wall on the shortest way."""
        return road_of(self._table, self.axis_pairs)

    @property
    def family(self):
        """The lowest button to which ties 3 and 5 lead from the button of the road."""
        return reached(self._table.ties, road_of(self._table, self.axis_pairs)[1], ODD_TIES)[0]

    @property
    def mirror(self):
        """The change that turns the axis to its opposite and leaves what has the pairing 0 with the column."""
        word, button = road_of(self._table, self.axis_pairs)
        return change_of(self._table, word + (button,) + word[::-1])

    def __eq__(self, other):
        return isinstance(other, Wall) and self._table == other._table and self.axis_pairs == other.axis_pairs


def own_button(axis):
    """The button whose axis this is, None if it is no button's."""
    filled = [button for button, pair in enumerate(axis) if pair != NOUGHT]
    return filled[0] if len(filled) == 1 and axis[filled[0]] == ONE else None


def road_of(table, axis):
    """The road of the wall with this up axis."""
    word = []
    button = own_button(axis)
    while button is None:
        raised = lowest_raised(table.bonds, axis)
        word.append(raised)
        axis = turned(table.bonds, axis, raised)
        button = own_button(axis)
    return (tuple(word), button)


def with_pairs(table, axis, column):
    """The wall of an axis of the table or of its opposite, with the column of that axis."""
    made = Wall(table, (), 0)
    is_other = is_down(axis)
    made.axis_pairs = opposite(axis) if is_other else axis
    made.column_pairs = opposite(column) if is_other else column
    return made


def wall_check(value):
    """Refuse what is no wall."""
    if not isinstance(value, Wall):
        raise NotAWall(value)


def both_check(wall, other):
    """Refuse what are not two walls of one table."""
    wall_check(wall)
    wall_check(other)
    tables_check(wall, other)


def turned_by_word(word, wall):
    """The wall to which the change of a word turns a wall."""
    table = wall.table
    axis = turned_by(table.bonds, wall.axis_pairs, word)
    return with_pairs(table, axis, turned_by(table.cobonds, wall.column_pairs, word))


def wall_turned(change, wall):
    """The wall to which a change turns a wall."""
    change_check(change)
    wall_check(wall)
    tables_check(change, wall)
    return turned_by_word(change.word, wall)


def pairing_of(table, axis, column):
    """The pairing of a vector of pairs with a column of pairs, as a pair."""
    whole, gold = NOUGHT
    for button, number in enumerate(column):
        a, b = pair_product(number, level_at(table.bonds, axis, button))
        whole = whole + a
        gold = gold + b
    return (whole, gold)


def pairings(wall, other):
    """The pairing of the first axis with the second column, and that of the second one with the first."""
    table = wall.table
    return (
        pairing_of(table, wall.axis_pairs, other.column_pairs),
        pairing_of(table, other.axis_pairs, wall.column_pairs),
    )


def pairing(wall, other):
    """The pairing of the axis of the first wall with the column of the other one."""
    both_check(wall, other)
    whole, gold = pairings(wall, other)[0]
    return Golden(whole, gold)


def meeting_of(wall, other):
    """Which power of the product of the mirrors is plain first, 0 for none."""
    if wall == other:
        return 1
    there, back = pairings(wall, other)
    return MEETINGS.get(pair_product(there, back), 0)


def meeting(wall, other):
    """1 for equal walls, 2 to 6 if they meet, 0 otherwise."""
    both_check(wall, other)
    return meeting_of(wall, other)


def standing(wall, other):
    """How the first wall stands to the other one."""
    both_check(wall, other)
    met = meeting_of(wall, other)
    if met > 0:
        return "same" if met == 1 else "meet"
    whole, gold = pairings(wall, other)[0]
    if pair_sign(whole, gold) < 0:
        return "facing"
    return "behind" if wall.depth > other.depth else "ahead"


def odd_way(ties, start, goal):
    """The buttons of a shortest way of ties 3 and 5, both ends counted; None if there is none."""
    ways = {start: (start,)}
    ends = [start]
    while ends and goal not in ways:
        further = []
        for end in ends:
            for button, tie in enumerate(ties[end]):
                if tie in ODD_TIES and button not in ways:
                    ways[button] = ways[end] + (button,)
                    further.append(button)
        ends = further
    return ways.get(goal, None)


def leading(wall, other):
    """A change that turns the axis of the first wall to that of the other one; None if there is none."""
    both_check(wall, other)
    table = wall.table
    word, start = wall.road
    other_word, goal = other.road
    way = odd_way(table.ties, start, goal)
    if way is None:
        return None
    # By an odd tie, both buttons by turns, one fewer than the tie, turn the axis of the first one to the second.
    across = ()
    for button, further in zip(way[:-1], way[1:]):
        across = stretch(button, further, table.ties[button][further] - 1) + across
    return change_of(table, other_word + across + word[::-1])


def button_roads(table):
    """From the axes of the buttons to their roads."""
    return {axis_of(table.size, button): ((), button) for button in range(table.size)}


def deeper_roads(table, roads):
    """From the axes that are deeper by 1 to their roads; the roads of all of one depth are given."""
    found = {}
    for axis in roads:
        for button in range(table.size):
            whole, gold = level_at(table.bonds, axis, button)
            if pair_sign(whole, gold) < 0:
                deeper = turned(table.bonds, axis, button)
                if deeper not in found:
                    lowest = lowest_raised(table.bonds, deeper)
                    word, start = roads[turned(table.bonds, deeper, lowest)]
                    found[deeper] = ((lowest,) + word, start)
    return found


def by_roads(table, roads):
    """The walls of these roads, ascending by them."""
    return tuple([Wall(table, word, button) for word, button in sorted(list(roads.values()))])


def walls_at(table, depth):
    """All walls of this depth, ascending by their roads."""
    table_check(table)
    number_check(depth, 1, MOST_DEPTH)
    roads = button_roads(table)
    for _ in range(depth - 1):
        roads = deeper_roads(table, roads)
        if len(roads) > MOST_LOT:
            raise TooMany(MOST_LOT)
    return by_roads(table, roads)


def walls_all(table):
    """All walls of a finite table, by their depths, then by their roads."""
    finite_check(table)
    roads = button_roads(table)
    found = ()
    while roads:
        found = found + by_roads(table, roads)
        roads = deeper_roads(table, roads)
    return found
