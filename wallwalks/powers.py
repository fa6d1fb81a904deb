"""Powers of whatever can be multiplied."""


def power_of(one, base, exponent):
    """The product of as many bases as the exponent, from 0 on, tells; for 0 it is the one."""
    made = one
    while exponent > 0:
        if exponent & 1:
            made = made * base
        exponent = exponent >> 1
        if exponent > 0:
            base = base * base
    return made
