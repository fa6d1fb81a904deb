"""Polynomials with whole coefficients: tuples, the constant first, the last one not 0, () for nought."""


def trimmed(coefficients):
    """The coefficients as a tuple without noughts at the end."""
    end = len(coefficients)
    while end > 0 and coefficients[end - 1] == 0:
        end -= 1
    return tuple(coefficients[:end])


def poly_sum(left, right):
    """The sum of two polynomials."""
    size = max(len(left), len(right))
    longer = left + (0,) * (size - len(left))
    other = right + (0,) * (size - len(right))
    return trimmed([a + b for a, b in zip(longer, other)])


def poly_opposite(poly):
    """The opposite of a polynomial."""
    return tuple([-a for a in poly])


def poly_product(left, right):
    """The product of two polynomials."""
    made = [0 for _ in range(len(left) + len(right) - 1)]
    for i, a in enumerate(left):
        for j, b in enumerate(right):
            made[i + j] = made[i + j] + a * b
    return trimmed(made)


def poly_divided(poly, divisor):
    """The quotient and the rest by a divisor whose last coefficient is 1."""
    rest = list(poly)
    low = len(divisor) - 1
    quotient = [0 for _ in range(len(poly) - low)]
    for at in range(len(poly) - 1, low - 1, -1):
        factor = rest[at]
        quotient[at - low] = factor
        for i, a in enumerate(divisor):
            rest[at - low + i] = rest[at - low + i] - factor * a
    return trimmed(quotient), trimmed(rest)


def one_to(degree):
    """1 + q + .. + q ** (degree - 1)."""
    return (1,) * degree


def divisors_above_1(number):
    """The divisors of a number from 2 on, ascending."""
    return [divisor for divisor in range(2, number + 1) if number % divisor == 0]


def cyclotomic(number):
    """The part of 1 + q + .. + q ** (number - 1), a number from 2 on, that none with a lesser number has.

    It has no part of its own but itself and 1, over the ratios.
    """
    left = one_to(number)
    for divisor in divisors_above_1(number)[:-1]:
        left, _ = poly_divided(left, cyclotomic(divisor))
    return left


def series(top, bottom, many):
    """The first coefficients of top / bottom, the constant of bottom being 1."""
    found = []
    for at in range(many):
        whole = top[at] if at < len(top) else 0
        reach = min(at, len(bottom) - 1)
        found.append(whole - sum([bottom[i] * found[at - i] for i in range(1, reach + 1)]))
    return tuple(found)


def far_coefficient(top, bottom, at, modulus):
    """What the coefficient at a power in top / bottom leaves by the modulus, the constant of bottom being 1.

    top(q) * bottom(-q) over bottom(q) * bottom(-q) is the same fraction, with
    even powers alone below; so every other power is let go, and the power halved.
    """
    while at > 0 and top:
        flipped = tuple([-a if i & 1 else a for i, a in enumerate(bottom)])
        above = poly_product(top, flipped)
        below = poly_product(bottom, flipped)
        top = tuple([a % modulus for a in above[at & 1::2]])
        bottom = tuple([a % modulus for a in below[::2]])
        at = at >> 1
    return top[0] % modulus if top else 0
