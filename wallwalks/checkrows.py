"""The checker's own rows: how buttons turn axes and columns, and how steps are done, straight from a table's ties.

The images of a word are the vectors to which its change turns the axes of the
buttons. Two words make the same change exactly if their images are the same.
"""

from wallwalks.limits import MOST_STEPS
from wallwalks.refusals import is_whole_within
from wallwalks.tables import weight
from wallwalks.turning import NOUGHT, ONE, pair_product, pair_sign

# Words in certificates, and words between steps, have at most so many buttons.
MOST_CERTIFIED = 120

PLAIN_SWAPS = ("swap",)
ALL_STEPS = ("swap", "drop", "add")

# The product of the pairings of two unlike walls that meet, and the power of the product of the mirrors that is plain.
POWERS = {(0, 0): 2, (1, 0): 3, (2, 0): 4, (3, 0): 6, (2, -1): 5, (1, 1): 5}


class Ground:
    """A table as the checker sees it: how many buttons, their ties, and the weights by rows and by columns."""

    def __init__(self, ties):
        buttons = range(len(ties))
        self.many = len(ties)
        self.tied = ties
        self.rows = tuple([tuple([weight(ties, s, t) for t in buttons]) for s in buttons])
        self.columns = tuple([tuple([weight(ties, t, s) for t in buttons]) for s in buttons])


def sum_of_products(numbers, vector):
    """The sum of the products of numbers and those of a vector, place by place."""
    whole, gold = NOUGHT
    for left, right in zip(numbers, vector):
        a, b = pair_product(left, right)
        whole = whole + a
        gold = gold + b
    return (whole, gold)


def sign_of(number):
    """The sign of a pair."""
    return pair_sign(number[0], number[1])


def less_share(vector, number, other):
    """The vector less a number times another one."""
    made = []
    for (whole, gold), pair in zip(vector, other):
        a, b = pair_product(number, pair)
        made.append((whole - a, gold - b))
    return tuple(made)


def own_axis(ground, button):
    """The axis, or the column, of a button."""
    return tuple([ONE if s == button else NOUGHT for s in range(ground.many)])


def own_opposite(vector):
    """The opposite of a vector."""
    return tuple([(-whole, -gold) for whole, gold in vector])


def is_turned_down(axis):
    """Whether an axis of the table, or a column, is down."""
    return any([sign_of(number) < 0 for number in axis])


def turned_once(rows, vector, button):
    """The vector to which a button turns it, by the rows of weights; a column, by the columns of weights."""
    whole, gold = vector[button]
    a, b = sum_of_products(rows[button], vector)
    return vector[:button] + ((whole - a, gold - b),) + vector[button + 1:]


def led_vector(rows, vector, word):
    """The vector to which the change of a word turns it, the last button first."""
    for button in reversed(list(word)):
        vector = turned_once(rows, vector, button)
    return vector


def own_axes(ground):
    """The axes of the buttons: the images of the empty word."""
    return tuple([own_axis(ground, button) for button in range(ground.many)])


def press_images(ground, images, word):
    """From the images of a change, those of it with a word pressed behind it.

    A button s turns the axis of t to that less A(s, t) times its own axis.
    """
    for button in word:
        own = images[button]
        images = tuple([less_share(image, number, own) for image, number in zip(images, ground.rows[button])])
    return images


def own_images(ground, word):
    """The images of a word."""
    return press_images(ground, own_axes(ground), word)


def undone_images(ground, word):
    """The images of the inverse of a word's change."""
    return own_images(ground, word[::-1])


def down_buttons(images):
    """The buttons whose images are down: the back buttons of the change."""
    return [button for button, image in enumerate(images) if is_turned_down(image)]


def own_first_word(ground, word):
    """The first word of the change that a word makes."""
    images = undone_images(ground, word)
    found = []
    fronts = down_buttons(images)
    while fronts:
        found.append(fronts[0])
        images = press_images(ground, images, (fronts[0],))
        fronts = down_buttons(images)
    return tuple(found)


def is_least_word(ground, word):
    """Whether at each place the buttons ahead turn the axis of the button up."""
    images = own_axes(ground)
    for button in word:
        if is_turned_down(images[button]):
            return False
        images = press_images(ground, images, (button,))
    return True


def own_side(ground, word, button):
    """The pair of the up axis, and its column, of the wall that a word and a button mean."""
    axis = led_vector(ground.rows, own_axis(ground, button), word)
    column = led_vector(ground.columns, own_axis(ground, button), word)
    return (own_opposite(axis), own_opposite(column)) if is_turned_down(axis) else (axis, column)


def own_pairing(ground, axis, column):
    """The pairing of a vector with a column."""
    return sum_of_products([sum_of_products(row, axis) for row in ground.rows], column)


def own_meeting(ground, side, other):
    """1 for equal walls, 2 to 6 if they meet, 0 otherwise; they are told by their axes and columns."""
    if side[0] == other[0]:
        return 1
    both = pair_product(own_pairing(ground, side[0], other[1]), own_pairing(ground, other[0], side[1]))
    return POWERS.get(both, 0)


def swapped_at(ground, word, at):
    """The word behind a swap at a place; None if none can be done there."""
    pair = word[at:at + 2]
    tie = ground.tied[pair[0]][pair[1]]
    there, back = (pair * 3)[:tie], (pair[::-1] * 3)[:tie]
    return word[:at] + back + word[at + tie:] if tie > 1 and word[at:at + tie] == there else None


def added_at(ground, word, step):
    """The word with two like buttons put in; None if the step is none that can be done at the word."""
    if len(step) != 3 or not is_whole_within(step[1], 0, len(word)) or not is_whole_within(step[2], 0, ground.many - 1):
        return None
    return word[:step[1]] + (step[2], step[2]) + word[step[1]:]


def behind_step(ground, word, step, kinds):
    """The word behind a step of these kinds; None if the value is none that can be done at the word."""
    if not isinstance(step, tuple) or not step or not isinstance(step[0], str) or step[0] not in kinds:
        return None
    if step[0] == "add":
        return added_at(ground, word, step)
    if len(step) != 2 or not is_whole_within(step[1], 0, len(word) - 2):
        return None
    at = step[1]
    if step[0] == "swap":
        return swapped_at(ground, word, at)
    return word[:at] + word[at + 2:] if word[at] == word[at + 1] else None


def led_by_steps(ground, word, steps, kinds):
    """The word to which a tuple of steps of these kinds leads; None if the value is no such tuple."""
    if not isinstance(steps, tuple) or len(steps) > MOST_STEPS:
        return None
    for at, step in enumerate(steps):
        if at > 0 and len(word) > MOST_CERTIFIED:
            return None
        word = behind_step(ground, word, step, kinds)
        if word is None:
            return None
    return word
