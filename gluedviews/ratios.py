"""Fractions as pairs (above, below) of whole numbers that have nothing in common."""


def common_divisor(first, second):
    divisor = first
    rest = second
    while rest > 0:
        behind = divisor % rest
        divisor = rest
        rest = behind
    return divisor


def lowest(above, below):
    divisor = common_divisor(above, below)
    return (above // divisor, below // divisor)


def product(first, second):
    return lowest(first[0] * second[0], first[1] * second[1])


def total(first, second):
    return lowest(first[0] * second[1] + second[0] * first[1], first[1] * second[1])
