"""Steps: swaps, drops and adds, and the ways of them from word to word."""

from wallwalks.changes import change_of
from wallwalks.errors import InvalidStep, TooMany
from wallwalks.limits import MOST_WAY
from wallwalks.refusals import is_whole_within, word_check
from wallwalks.tables import table_check
from wallwalks.turning import axis_of, turned


def stretch(button, other_button, length):
    """The two buttons by turns, as many as told."""
    return tuple([other_button if at & 1 else button for at in range(length)])


def is_swap_at(table, word, at):
    """Whether a swap can be done at a place that has a place behind it."""
    button, other_button = word[at], word[at + 1]
    tie = table.ties[button][other_button]
    return tie >= 2 and word[at:at + tie] == stretch(button, other_button, tie)


def fits(table, word, value):
    """Whether a value is a step that can be done at a word of any length."""
    if not isinstance(value, tuple) or len(value) not in (2, 3):
        return False
    if not isinstance(value[0], str):
        return False
    if len(value) == 3:
        return (
            value[0] == "add"
            and is_whole_within(value[1], 0, len(word))
            and is_whole_within(value[2], 0, table.size - 1)
        )
    if not is_whole_within(value[1], 0, len(word) - 2):
        return False
    at = value[1]
    if value[0] == "drop":
        return word[at] == word[at + 1]
    return value[0] == "swap" and is_swap_at(table, word, at)


def done(table, word, step):
    """The word behind a step that can be done at it."""
    at = step[1]
    if step[0] == "add":
        return word[:at] + (step[2], step[2]) + word[at:]
    if step[0] == "drop":
        return word[:at] + word[at + 2:]
    tie = table.ties[word[at]][word[at + 1]]
    return word[:at] + stretch(word[at + 1], word[at], tie) + word[at + tie:]


def undoing(word, step):
    """The step that undoes a drop or a swap that was done at the word."""
    if step[0] == "drop":
        return ("add", step[1], word[step[1]])
    return step


def is_step(table, word, value):
    """Whether a value is a step that can be done at the word."""
    table_check(table)
    word_check(table, word)
    return fits(table, word, value)


def stepped(table, word, step):
    """The word behind a step."""
    table_check(table)
    word_check(table, word)
    if not fits(table, word, step):
        raise InvalidStep(step)
    return done(table, word, step)


def steps_of(table, word):
    """All swaps and drops that can be done at the word, by their places."""
    table_check(table)
    word_check(table, word)
    both = [(kind, at) for at in range(len(word) - 1) for kind in ("swap", "drop")]
    return tuple([step for step in both if fits(table, word, step)])


def spare_of(table, word):
    """The spare pair of a word with the least second place; None if the word is least."""
    for at, button in enumerate(word):
        axis = axis_of(table.size, button)
        for ahead in range(at - 1, -1, -1):
            if axis == axis_of(table.size, word[ahead]):
                return (ahead, at)
            axis = turned(table.bonds, axis, word[ahead])
    return None


def is_least(table, word):
    """Whether no word with fewer buttons makes the same change."""
    table_check(table)
    word_check(table, word)
    return spare_of(table, word) is None


def spare(table, word):
    """The spare pair with the least second place; None if the word is least."""
    table_check(table)
    word_check(table, word)
    return spare_of(table, word)


def bring(table, buttons, at, button, places):
    """Swap in a list of buttons until the button stands at a place.

    It must be a front button of the positive that the buttons from there on
    make: for least words that of a change, as swaps lead to each other one. The
    places of the swaps are put behind the others. With the button that stands
    there, what follows begins with both by turns, as many as their tie tells.
    """
    lead = buttons[at]
    if lead == button:
        return
    tie = table.ties[lead][button]
    for ahead in range(1, tie):
        bring(table, buttons, at + ahead, button if ahead & 1 else lead, places)
    buttons[at:at + tie] = list(stretch(button, lead, tie))
    places.append(at)


def swap_places(table, word, other_word):
    """The places of swaps that lead a word to another word of its positive, as two least words of a change are."""
    buttons = list(word)
    places = []
    for at, button in enumerate(other_word):
        bring(table, buttons, at, button, places)
    return places


def lessening(table, word):
    """The steps that lead a word to a least word of its change, and that word.

    Of a spare pair the first button and those between make the same change as
    those between and the second button: swapped so, two like buttons meet.
    """
    steps = []
    pair = spare_of(table, word)
    while pair is not None:
        first, second = pair
        held = word[first:second]
        places = swap_places(table, held, word[first + 1:second + 1])
        steps = steps + [("swap", first + place) for place in places] + [("drop", second - 1)]
        word = word[:first] + word[first + 1:second] + word[second + 1:]
        pair = spare_of(table, word)
    return steps, word


def steps_back(table, word, steps):
    """The steps that lead back from where drops and swaps lead the word."""
    back = []
    for step in steps:
        back.append(undoing(word, step))
        word = done(table, word, step)
    return back[::-1]


def way(table, word, other_word):
    """Steps that lead the first word to the other one; None if they make unlike changes."""
    table_check(table)
    word_check(table, word)
    word_check(table, other_word)
    if word == other_word:
        return ()
    if change_of(table, word) != change_of(table, other_word):
        return None
    longer = max(len(word), len(other_word))
    if longer > MOST_WAY:
        raise TooMany(longer)
    steps, least = lessening(table, word)
    other_steps, other_least = lessening(table, other_word)
    across = [("swap", place) for place in swap_places(table, least, other_least)]
    return tuple(steps + across + steps_back(table, other_word, other_steps))
