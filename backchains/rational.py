"""Exact fractions: pairs (numerator, denominator) in lowest terms, the denominator 1 or more."""

ONE = (1, 1)
MINUS_ONE = (-1, 1)


def greatest_divisor(a, b):
    """The greatest number that divides both; each is 0 or more, and not both are 0."""
    while b:
        rest = a % b
        a = b
        b = rest
    return a


def lowest(numerator, denominator):
    """The fraction of that value; the denominator may be below 0."""
    divisor = greatest_divisor(abs(numerator), abs(denominator))
    if denominator < 0:
        divisor = -divisor
    return (numerator // divisor, denominator // divisor)


def lowest_within(numerator, denominator, most):
    """The fraction of that value, or None if its weight is above most; the denominator is 1 or more."""
    # Dividing in turn takes just as many rounds as it would in lowest terms, and two rounds
    # at least halve what divides: a fraction of such a weight is through within 2 * most.
    # So the many more rounds that huge numbers may take are never gone through.
    a = abs(numerator)
    b = denominator
    rounds = 0
    while b:
        if rounds > 2 * most:
            return None
        rest = a % b
        a = b
        b = rest
        rounds += 1
    fraction = (numerator // a, denominator // a)
    if weight(fraction) > most:
        return None
    return fraction


def weight(fraction):
    return abs(fraction[0]).bit_length() + fraction[1].bit_length()


def add(a, b):
    return lowest(a[0] * b[1] + b[0] * a[1], a[1] * b[1])


def subtract(a, b):
    return lowest(a[0] * b[1] - b[0] * a[1], a[1] * b[1])


def multiply(a, b):
    return lowest(a[0] * b[0], a[1] * b[1])


def divide(a, b):
    """a / b; b isn't 0."""
    return lowest(a[0] * b[1], a[1] * b[0])


def opposite(a):
    return (-a[0], a[1])


def read_fractions(numbers, count):
    """The fractions that stand two numbers each in the list, or None if they aren't just count fractions."""
    if len(numbers) != 2 * count:
        return None
    fractions = []
    for k in range(count):
        if numbers[2 * k + 1] < 1:
            return None
        fractions.append(lowest(numbers[2 * k], numbers[2 * k + 1]))
    return fractions
