"""Fractions in lowest terms, and whole numbers as bytes."""


def greatest_divisor(one, other):
    while other > 0:
        rest = one % other
        one = other
        other = rest
    return one


# Of 0 by anything the greatest divisor is what it is divided by, so that is 0 by 1.
def lowest_terms(divided, divisor):
    shared = greatest_divisor(divided, divisor)
    return (divided // shared, divisor // shared)


def lowest_first(number, size):
    return [(number >> (8 * place)) & 255 for place in range(size)]
