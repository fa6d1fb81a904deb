"""Tables of buttons and their ties, and how tables are put together, cut and compared."""

from wallwalks.errors import InvalidName, InvalidRenaming, InvalidRoom, InvalidText, InvalidTies, NotATable, TooMany
from wallwalks.goldens import golden_vector
from wallwalks.limits import MOST_BUTTONS
from wallwalks.refusals import button_check, is_whole, room_check

APART = 2
TIES = (0, 2, 3, 4, 5, 6)
TIED = (0, 3, 4, 5, 6)
HEAD = "table: "
DIGITS = ("0", "1", "2", "3", "4", "5", "6")

# The weights A(s, t) of unlike buttons by their tie, 5 left out, for s less than t and for s greater.
WEIGHTS_UP = {0: -2, 2: 0, 3: -1, 4: -1, 6: -1}
WEIGHTS_DOWN = {0: -2, 2: 0, 3: -1, 4: -2, 6: -3}

# For each name the ties of a chain, and the pairs of buttons that are tied by 3 beside it.
NAMED = {
    "A1": ((), ()),
    "A2": ((3,), ()),
    "A3": ((3, 3), ()),
    "A4": ((3, 3, 3), ()),
    "A5": ((3, 3, 3, 3), ()),
    "A6": ((3, 3, 3, 3, 3), ()),
    "B2": ((4,), ()),
    "B3": ((3, 4), ()),
    "B4": ((3, 3, 4), ()),
    "B5": ((3, 3, 3, 4), ()),
    "B6": ((3, 3, 3, 3, 4), ()),
    "H2": ((5,), ()),
    "H3": ((3, 5), ()),
    "H4": ((3, 3, 5), ()),
    "F4": ((3, 4, 3), ()),
    "G2": ((6,), ()),
    "D4": ((3, 3), ((3, 1),)),
    "D5": ((3, 3, 3), ((4, 2),)),
    "D6": ((3, 3, 3, 3), ((5, 3),)),
    "E6": ((3, 3, 3, 3), ((5, 2),)),
    "~A1": ((0,), ()),
    "~A2": ((3, 3), ((2, 0),)),
    "~A3": ((3, 3, 3), ((3, 0),)),
    "~A4": ((3, 3, 3, 3), ((4, 0),)),
    "~A5": ((3, 3, 3, 3, 3), ((5, 0),)),
    "~B3": ((4, 3), ((3, 1),)),
    "~B4": ((4, 3, 3), ((4, 2),)),
    "~B5": ((4, 3, 3, 3), ((5, 3),)),
    "~C2": ((4, 4), ()),
    "~C3": ((4, 3, 4), ()),
    "~C4": ((4, 3, 3, 4), ()),
    "~C5": ((4, 3, 3, 3, 4), ()),
    "~D4": ((3, 3), ((3, 1), (4, 1))),
    "~D5": ((3, 3, 3), ((4, 2), (5, 1))),
    "~F4": ((3, 3, 4, 3), ()),
    "~G2": ((3, 6), ()),
}


def weight(ties, s, t):
    """The weight A(s, t), as a pair."""
    tie = ties[s][t]
    if s == t:
        return (2, 0)
    if tie == 5:
        return (0, -1)
    return (WEIGHTS_UP[tie] if s < t else WEIGHTS_DOWN[tie], 0)


def bond_row(ties, s, is_turned_round):
    """The bonds of the button s (module turning), or its cobonds if turned round."""
    row = []
    for t in range(len(ties)):
        if ties[s][t] in TIED:
            whole, gold = weight(ties, t, s) if is_turned_round else weight(ties, s, t)
            row.append((t, -whole, -gold))
    return tuple(row)


def is_tie_row(ties, s):
    """Whether the row s makes a table with the rows ahead of it."""
    row = ties[s]
    if not isinstance(row, tuple) or len(row) != len(ties):
        return False
    for t, tie in enumerate(row):
        if not is_whole(tie) or tie not in ((1,) if s == t else TIES):
            return False
        if t < s and tie != ties[t][s]:
            return False
    return True


def ties_check(ties):
    """Refuse what makes no table."""
    if not isinstance(ties, tuple) or not 1 <= len(ties) <= MOST_BUTTONS:
        raise InvalidTies(None)
    for s in range(len(ties)):
        if not is_tie_row(ties, s):
            raise InvalidTies(s)


def ties_of_text(text):
    """The rows of numbers that a text of a table tells; None for what has not the form of one."""
    if not isinstance(text, str) or not text.startswith(HEAD):
        return None
    rows = [row.split(" ") for row in text[len(HEAD):].split("; ")]
    size = len(rows)
    if size > MOST_BUTTONS or any([len(row) != size for row in rows]):
        return None
    if any([tie not in DIGITS for row in rows for tie in row]):
        return None
    ties = tuple([tuple([int(tie) for tie in row]) for row in rows])
    return ties if all([is_tie_row(ties, s) for s in range(size)]) else None


def reached(ties, start, kinds):
    """The buttons, ascending, to which ways of ties of these kinds lead from a button, itself too."""
    inside = [start]
    at = 0
    while at < len(inside):
        row = ties[inside[at]]
        inside = inside + [t for t, tie in enumerate(row) if tie in kinds and t not in inside]
        at += 1
    return tuple(sorted(inside))


class Table:
    """Some buttons, with the tie of each two of them."""

    def __init__(self, ties):
        ties_check(ties)
        self._ties = ties
        self.bonds = tuple([bond_row(ties, s, False) for s in range(len(ties))])
        self.cobonds = tuple([bond_row(ties, s, True) for s in range(len(ties))])

    @property
    def size(self):
        """The number of buttons."""
        return len(self._ties)

    @property
    def ties(self):
        """The rows of ties."""
        return self._ties

    @property
    def weights(self):
        """The rows of weights, golden numbers."""
        buttons = range(len(self._ties))
        return tuple([golden_vector([weight(self._ties, s, t) for t in buttons]) for s in buttons])

    @property
    def pieces(self):
        """The least lots of buttons such that tied buttons stand in one."""
        lots = [reached(self._ties, s, TIED) for s in range(len(self._ties))]
        return tuple([lot for s, lot in enumerate(lots) if lot[0] == s])

    @property
    def is_joined(self):
        """Whether there is just one piece."""
        return len(self.pieces) == 1

    @property
    def text(self):
        """The text of the table."""
        rows = [" ".join([str(tie) for tie in row]) for row in self._ties]
        return HEAD + "; ".join(rows)

    @staticmethod
    def read(text):
        """The table with this text."""
        ties = ties_of_text(text)
        if ties is None:
            raise InvalidText(text)
        return Table(ties)

    def __eq__(self, other):
        return isinstance(other, Table) and self._ties == other._ties

    def tie(self, button, other_button):
        """The tie of two buttons, 1 for a button and itself."""
        button_check(self, button)
        button_check(self, other_button)
        return self._ties[button][other_button]


def table_check(value):
    """Refuse what is no table."""
    if not isinstance(value, Table):
        raise NotATable(value)


def linked(size, links):
    """The table in which the two buttons of each link (button, button, tie) have this tie; others are apart."""
    ties = {}
    for button, other_button, tie in links:
        ties[(button, other_button)] = tie
        ties[(other_button, button)] = tie
    buttons = range(size)
    return Table(tuple([tuple([1 if s == t else ties.get((s, t), APART) for t in buttons]) for s in buttons]))


def chain_links(ties):
    """The links of the chain of these ties."""
    return [(s, s + 1, tie) for s, tie in enumerate(ties)]


def chain(ties):
    """The chain of these ties."""
    if not isinstance(ties, tuple) or len(ties) >= MOST_BUTTONS:
        raise InvalidTies(None)
    for at, tie in enumerate(ties):
        if not is_whole(tie) or tie not in TIES:
            raise InvalidTies(at)
    return linked(len(ties) + 1, chain_links(ties))


def named_size(name):
    """How many buttons the table with this name has."""
    ties, beside_it = NAMED[name]
    return 1 + max([len(ties)] + [s for s, t in beside_it])


def named(name):
    """The table with this name."""
    if not isinstance(name, str) or name not in NAMED:
        raise InvalidName(name)
    ties, beside_it = NAMED[name]
    return linked(named_size(name), chain_links(ties) + [(s, t, 3) for s, t in beside_it])


def part(table, room):
    """The table of the buttons of a room, numbered anew in their order."""
    table_check(table)
    room_check(table, room)
    if not room:
        raise InvalidRoom(None)
    return Table(tuple([tuple([table.ties[s][t] for t in room]) for s in room]))


def beside(table, other):
    """Both tables as one, their buttons apart from one another, those of the second one behind."""
    table_check(table)
    table_check(other)
    size = table.size + other.size
    if size > MOST_BUTTONS:
        raise TooMany(size)
    rows = [row + (APART,) * other.size for row in table.ties]
    rows = rows + [(APART,) * table.size + row for row in other.ties]
    return Table(tuple(rows))


def is_renaming(table, value):
    """Whether a value is a tuple of all buttons of the table, each once."""
    if not isinstance(value, tuple) or len(value) != table.size:
        return False
    if any([not is_whole(button) for button in value]):
        return False
    return sorted(value) == list(range(table.size))


def renamed(table, renaming):
    """The table in which renaming[s], renaming[t] have the tie of s, t in the given one."""
    table_check(table)
    if not is_renaming(table, renaming):
        raise InvalidRenaming(renaming)
    links = [(renaming[s], renaming[t], table.ties[s][t]) for s in range(table.size) for t in range(table.size)]
    return linked(table.size, links)


def can_go_on(ties, other_ties, renaming, button):
    """Whether the next button of the first table can be renamed to this one of the other."""
    row = ties[len(renaming)]
    return button not in renaming and all([row[t] == other_ties[button][r] for t, r in enumerate(renaming)])


def likeness(table, other):
    """The first renaming that leads the first table to the other one; None if there is none."""
    table_check(table)
    table_check(other)
    if table.size != other.size:
        return None
    buttons = range(table.size)
    # All beginnings of renamings are kept in order, so that the first one at the end is the first of all.
    renamings = [()]
    for _ in buttons:
        renamings = [
            renaming + (button,) for renaming in renamings for button in buttons
            if can_go_on(table.ties, other.ties, renaming, button)
        ]
    return renamings[0] if renamings else None


def name_of(table):
    """The name of the named table with which a table is alike; None if there is none."""
    for name in NAMED:
        if named_size(name) == table.size and likeness(table, named(name)) is not None:
            return name
    return None
