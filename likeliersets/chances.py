"""Between what bounds a set's chance lies, by shares that fit.

A chance is a tuple: its upper number, its lower number.
"""

from likeliersets.byshares import share_of


def chance_by(shares, chosen):
    return (share_of(chosen, shares), sum(shares))


def is_less(chance, other):
    # Lower numbers are above 0, so this asks the same as dividing would, and stays whole.
    return chance[0] * other[1] < other[0] * chance[1]


def least_chance(chosen, fitting):
    least = chance_by(fitting[0], chosen)
    for shares in fitting:
        chance = chance_by(shares, chosen)
        if is_less(chance, least):
            least = chance
    return least


def greatest_chance(chosen, fitting):
    greatest = chance_by(fitting[0], chosen)
    for shares in fitting:
        chance = chance_by(shares, chosen)
        if is_less(greatest, chance):
            greatest = chance
    return greatest


def greatest_common_divisor(one, other):
    divisor = one
    rest = other
    while rest > 0:
        smaller = divisor % rest
        divisor = rest
        rest = smaller
    return divisor


def as_fraction(chance):
    divisor = greatest_common_divisor(chance[0], chance[1])
    return [chance[0] // divisor, chance[1] // divisor]
