"""Changes: what words of buttons make, held by their first words."""

from wallwalks.errors import InvalidText, InvalidVector, NotAChange, OtherTable, TooMany
from wallwalks.goldens import Golden, golden, golden_vector, is_number
from wallwalks.limits import MOST_LOT, MOST_POWER, MOST_WORD
from wallwalks.powers import power_of
from wallwalks.refusals import button_check, number_check, word_check
from wallwalks.tables import table_check
from wallwalks.turning import downs, first_word_of, images_of, level_at, marks_ahead, marks_by, plain_marks, turned_by


def word_of_text(table, text):
    """The word of the table that a text tells; None for what is no text of one."""
    if not isinstance(text, str):
        return None
    if text == "-":
        return ()
    digits = text.split(" ")
    buttons = [str(button) for button in range(table.size)]
    if len(digits) > MOST_WORD or any([digit not in buttons for digit in digits]):
        return None
    return tuple([int(digit) for digit in digits])


def text_of_word(word):
    """The text of a word."""
    if not word:
        return "-"
    return " ".join([str(button) for button in word])


class Change:
    """The change that a word makes.

    Its marks (module turning) tell it, too, and are kept so that words can be
    pressed ahead of it without pressing all of its own first word again.
    """

    def __init__(self, table, word):
        table_check(table)
        word_check(table, word)
        self._table = table
        self.marks = marks_by(table.bonds, plain_marks(table.size), word)
        self._word = first_word_of(table.bonds, self.marks)

    @property
    def table(self):
        """The table."""
        return self._table

    @property
    def word(self):
        """The first word."""
        return self._word

    @property
    def length(self):
        """The least number of buttons of a word that makes the change."""
        return len(self._word)

    @property
    def images(self):
        """The vectors to which the axes of the buttons are turned."""
        return tuple([golden_vector(vector) for vector in images_of(self._table.bonds, self._word)])

    @property
    def fronts(self):
        """The front buttons."""
        return downs(self.marks)

    @property
    def backs(self):
        """The back buttons, which are the front buttons of the inverse."""
        return downs(marks_backward(self._table, self._word))

    @property
    def parity(self):
        """0 if the words of the change have an even number of buttons, otherwise 1."""
        return len(self._word) & 1

    @property
    def text(self):
        """The text of the first word."""
        return text_of_word(self._word)

    @staticmethod
    def read(table, text):
        """The change of the word with this text."""
        table_check(table)
        word = word_of_text(table, text)
        if word is None:
            raise InvalidText(text)
        return Change(table, word)

    def __eq__(self, other):
        return isinstance(other, Change) and self._table == other._table and self._word == other._word

    def __bool__(self):
        return bool(self._word)

    def __mul__(self, other):
        if not isinstance(other, Change):
            return NotImplemented
        tables_check(self, other)
        return change_with(self._table, marks_by(self._table.bonds, other.marks, self._word))

    def __pow__(self, other):
        return self.power(other)

    def power(self, exponent):
        """The product of as many of this change, or of its inverse, as the exponent tells."""
        number_check(exponent, -MOST_POWER, MOST_POWER)
        base = self if exponent > 0 else self.inverse()
        return power_of(Change(self._table, ()), base, abs(exponent))

    def inverse(self):
        """The change that undoes this one."""
        return change_with(self._table, marks_backward(self._table, self._word))

    def turned(self, vector):
        """The vector to which the change turns a vector."""
        vector_check(self._table, vector)
        return golden_vector(turned_by(self._table.bonds, pairs_of(vector), self._word))


def marks_backward(table, word):
    """The marks of the inverse of a word's change."""
    return marks_by(table.bonds, plain_marks(table.size), word[::-1])


def change_with(table, marks):
    """The change with these marks."""
    made = Change(table, ())
    made.marks = marks
    made._word = first_word_of(table.bonds, marks)
    return made


def change_of(table, word):
    """The change of a word that is known to be one, with any number of buttons."""
    return change_with(table, marks_by(table.bonds, plain_marks(table.size), word))


def change_check(value):
    """Refuse what is no change."""
    if not isinstance(value, Change):
        raise NotAChange(value)


def tables_check(thing, other):
    """Refuse two things of unlike tables."""
    if thing.table != other.table:
        raise OtherTable()


def both_changes_check(change, other):
    """Refuse what are not two changes of one table."""
    change_check(change)
    change_check(other)
    tables_check(change, other)


def vector_check(table, vector):
    """Refuse what is no vector of the table."""
    if not isinstance(vector, tuple) or len(vector) != table.size:
        raise InvalidVector(None)
    for at, number in enumerate(vector):
        if not is_number(number):
            raise InvalidVector(at)


def pairs_of(vector):
    """The tuple of pairs for a vector of golden and whole numbers."""
    numbers = [golden(number) for number in vector]
    return tuple([(number.whole, number.gold) for number in numbers])


def plain(table):
    """The plain change."""
    table_check(table)
    return Change(table, ())


def level(table, vector, button):
    """The level of a vector at a button."""
    table_check(table)
    vector_check(table, vector)
    button_check(table, button)
    whole, gold = level_at(table.bonds, pairs_of(vector), button)
    return Golden(whole, gold)


def parting(change, other):
    """The lowest button whose axis two changes turn unlike; None if they are the same."""
    both_changes_check(change, other)
    bonds = change.table.bonds
    for button, (left, right) in enumerate(zip(images_of(bonds, change.word), images_of(bonds, other.word))):
        if left != right:
            return button
    return None


def in_order(changes):
    """Unlike changes of one table as a tuple in order: by their lengths, then by their first words."""
    by_word = {change.word: change for change in changes}
    return tuple([by_word[word] for _, word in sorted([(len(word), word) for word in by_word])])


def rests_of(change):
    """What is left when front buttons are taken away from a change, one after the other.

    A dict that leads from the marks of the change, and of each rest, longer
    ones first, to the pairs of a front button and the marks of what is left
    without it. There are as many rests as changes that begin the change.
    """
    bonds = change.table.bonds
    rests = {}
    lot = [change.marks]
    while lot:
        shorter = {}
        for marks in lot:
            rests[marks] = tuple([(button, marks_ahead(bonds, marks, button)) for button in downs(marks)])
            for _, rest in rests[marks]:
                shorter[rest] = True
        if len(rests) + len(shorter) > MOST_LOT:
            raise TooMany(MOST_LOT)
        lot = list(shorter)
    return rests


def count_of_words(change, rests):
    """How many least words the change has; its rests (rests_of) are given."""
    counted = {}
    for marks in reversed(list(rests)):
        counted[marks] = sum([counted[rest] for _, rest in rests[marks]]) if rests[marks] else 1
    return counted[change.marks]


def many_words(change):
    """How many least words a change has."""
    change_check(change)
    return count_of_words(change, rests_of(change))


def least_words(change):
    """All least words of a change, ascending."""
    change_check(change)
    rests = rests_of(change)
    if count_of_words(change, rests) > MOST_LOT:
        raise TooMany(MOST_LOT)
    begun = [((), change.marks)]
    for _ in range(change.length):
        begun = [(word + (button,), rest) for word, marks in begun for button, rest in rests[marks]]
    return tuple([word for word, marks in begun])
