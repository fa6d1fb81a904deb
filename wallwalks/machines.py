"""Machines that read least words and first words, the numbers of changes in order, and words that are far alike."""

from wallwalks.changes import change_check, change_of, least_words
from wallwalks.errors import TooMany
from wallwalks.limits import MOST_SMALL, MOST_STATES, MOST_WORD
from wallwalks.refusals import number_check, word_check
from wallwalks.tables import APART, table_check
from wallwalks.turning import level_at, pair_sign, turned
from wallwalks.walls import Wall, meeting_of, turned_by_word, wall_check

MOST_NUMBER = 10 ** 30


class Reader:
    """A machine that reads words button by button, by the walls that must not be passed next."""

    def __init__(self, table, walls, states, leads):
        self._table = table
        self._small = walls
        self._states = states
        self._leads = leads

    @property
    def table(self):
        """The table."""
        return self._table

    @property
    def walls(self):
        """The small walls of the table."""
        return self._small

    @property
    def states(self):
        """The states: ascending tuples of indexes of walls, () first, in the order in which they are met."""
        return self._states

    @property
    def leads(self):
        """For each state the index of the following one for each button, None where the button is not read."""
        return self._leads

    def __len__(self):
        return len(self._states)

    def __eq__(self, other):
        return isinstance(other, Reader) and self._table == other._table and self._leads == other._leads

    def reads(self, word):
        """Whether the word is read."""
        return self.state(word) is not None

    def state(self, word):
        """The index of the state behind the word; None if it is not read."""
        word_check(self._table, word)
        at = 0
        for button in word:
            at = self._leads[at][button]
            if at is None:
                return None
        return at

    def how_many(self, length):
        """How many words of this length are read."""
        number_check(length, 0, MOST_WORD)
        return read_counts(self._leads, length)[length][0]


def goes_on_small(wall, button):
    """Whether a button, at which the level is below 0, turns a small wall to a small one."""
    return meeting_of(wall, Wall(wall.table, (), button)) > 0


def is_small(wall):
    """Whether the wall stands behind no wall."""
    wall_check(wall)
    word, button = wall.road
    here = Wall(wall.table, (), button)
    # On the way from a button's wall each step from a small wall must lead to a small one.
    for step in word[::-1]:
        if not goes_on_small(here, step):
            return False
        here = turned_by_word((step,), here)
    return True


def deeper_small(walls):
    """The small walls that are deeper by 1 than these, which are all small ones of one depth."""
    found = {}
    for wall in walls:
        bonds = wall.table.bonds
        for button in range(wall.table.size):
            whole, gold = level_at(bonds, wall.axis_pairs, button)
            if pair_sign(whole, gold) < 0 and goes_on_small(wall, button):
                deeper = turned_by_word((button,), wall)
                found[deeper.road] = deeper
    return [found[road] for road in sorted(list(found))]


def small_of(table):
    """All small walls, by their depths, then ascending by their roads."""
    lot = [Wall(table, (), button) for button in range(table.size)]
    found = []
    while lot:
        found = found + lot
        if len(found) > MOST_SMALL:
            raise TooMany(MOST_SMALL)
        lot = deeper_small(lot)
    return tuple(found)


def walls_small(table):
    """All small walls, by their depths, then ascending by their roads."""
    table_check(table)
    return small_of(table)


def small_turns(table, walls):
    """For each small wall the indexes of the walls to which the buttons turn it, None for one that is not small."""
    indexes = {wall.axis_pairs: at for at, wall in enumerate(walls)}
    return [
        [indexes.get(turned(table.bonds, wall.axis_pairs, button), None) for button in range(table.size)]
        for wall in walls
    ]


def state_behind(turns, state, button, lesser):
    """The state behind a button that is read: its wall, and the small ones to which it turns others.

    The wall of a button has the button itself as index, as the walls of the
    buttons stand first. The walls of the `lesser` buttons are turned, too.
    """
    found = [turns[at][button] for at in state + lesser]
    return tuple(sorted(list({at: True for at in found + [button] if at is not None})))


def reader_of(table, is_of_first):
    """The reader of first words, or that of least words."""
    walls = small_of(table)
    turns = small_turns(table, walls)
    places = {(): 0}
    states = [()]
    leads = []
    while len(leads) < len(states):
        state = states[len(leads)]
        row = []
        for button in range(table.size):
            if button in state:
                row.append(None)
                continue
            behind = state_behind(turns, state, button, tuple(range(button)) if is_of_first else ())
            if behind not in places:
                places[behind] = len(states)
                states.append(behind)
            row.append(places[behind])
        leads.append(tuple(row))
        if len(states) > MOST_STATES:
            raise TooMany(MOST_STATES)
    return Reader(table, walls, tuple(states), tuple(leads))


def least_reader(table):
    """The reader of least words."""
    table_check(table)
    return reader_of(table, False)


def first_reader(table):
    """The reader of first words."""
    table_check(table)
    return reader_of(table, True)


def one_longer(leads, counts):
    """From how many words of a length are read from each state, how many of the next length are."""
    return tuple([sum([counts[lead] for lead in row if lead is not None]) for row in leads])


def read_counts(leads, length):
    """For each length, up to this one, how many words of it are read from each state."""
    rows = [(1,) * len(leads)]
    for _ in range(length):
        rows.append(one_longer(leads, rows[-1]))
    return rows


def number_by(leads, word):
    """How many words that are read, by the leads of first words, stand ahead of this one, shorter ones first."""
    rows = read_counts(leads, len(word))
    number = sum([row[0] for row in rows[:-1]])
    state = 0
    for at, button in enumerate(word):
        row = rows[len(word) - at - 1]
        number = number + sum([row[lead] for lead in leads[state][:button] if lead is not None])
        state = leads[state][button]
    return number


def word_read(leads, rows, number):
    """The word of the greatest length in the rows (read_counts) ahead of which stand so many of this length."""
    word = []
    state = 0
    for row in rows[-2::-1]:
        for button, lead in enumerate(leads[state]):
            many = 0 if lead is None else row[lead]
            if number < many:
                word.append(button)
                state = lead
                break
            number = number - many
    return tuple(word)


def word_by(leads, number, most):
    """The word that has this number by the leads of first words, None if there are not so many.

    TooMany is raised if it has more than `most` buttons.
    """
    rows = read_counts(leads, 0)
    while number >= rows[-1][0]:
        number = number - rows[-1][0]
        rows.append(one_longer(leads, rows[-1]))
        if rows[-1][0] == 0:
            return None
        if len(rows) > most + 1:
            raise TooMany(most)
    return word_read(leads, rows, number)


def number_of(change):
    """How many changes stand ahead of this one in order."""
    change_check(change)
    return number_by(reader_of(change.table, True).leads, change.word)


def next_change(change):
    """The change behind this one in order; None if this is the last one."""
    change_check(change)
    leads = reader_of(change.table, True).leads
    word = word_by(leads, number_by(leads, change.word) + 1, change.length + 1)
    return None if word is None else change_of(change.table, word)


def change_at(table, number):
    """The change with this number; None if there are not so many."""
    table_check(table)
    number_check(number, 0, MOST_NUMBER)
    word = word_by(reader_of(table, True).leads, number, MOST_WORD)
    return None if word is None else change_of(table, word)


def shares(table, word):
    """What is left of a word for each button, and for each two tied ones, when all other buttons are left out."""
    return tuple([
        tuple([button for button in word if button in (s, t)])
        for s in range(table.size) for t in range(s + 1) if table.ties[s][t] != APART
    ])


def far_alike(table, word, other_word):
    """Whether swaps of buttons that are apart lead from one word to the other."""
    table_check(table)
    word_check(table, word)
    word_check(table, other_word)
    return shares(table, word) == shares(table, other_word)


def far_lots(change):
    """The first words of the far lots of the change's least words, ascending."""
    firsts = {}
    for word in least_words(change):
        firsts.setdefault(shares(change.table, word), word)
    return tuple(list(firsts.values()))
