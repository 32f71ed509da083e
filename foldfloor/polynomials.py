"""Polynomials: lists of integers, the coefficients from t^0 on, the last one not 0."""

from math import gcd


def trimmed(numbers):
    """The polynomial of some coefficients, whose last ones may be 0."""
    many = len(numbers)
    while many > 0 and numbers[many - 1] == 0:
        many -= 1
    return numbers[:many]


def row_of_ones(many):
    """1 + t + .. + t^(many - 1)."""
    return [1] * many


def added(one, other):
    """The sum of two polynomials."""
    many = max(len(one), len(other))
    found = [0] * many
    for at, number in enumerate(one):
        found[at] += number
    for at, number in enumerate(other):
        found[at] += number
    return trimmed(found)


def multiplied(one, other):
    """The product of two polynomials."""
    found = [0] * (len(one) + len(other))
    for at, number in enumerate(one):
        for by, factor in enumerate(other):
            found[at + by] += number * factor
    return trimmed(found)


def product_of(polynomials):
    """The product of some polynomials."""
    found = [1]
    for polynomial in polynomials:
        found = multiplied(found, polynomial)
    return found


def primitive(polynomial):
    """The polynomial divided by what all coefficients have in common."""
    common = 0
    for number in polynomial:
        common = gcd(common, number)
    return [number // common for number in polynomial]


def remainder(one, other):
    """What is left of a polynomial, multiplied by some integer, by a division by another one."""
    left = list(one)
    while len(left) >= len(other):
        shift = len(left) - len(other)
        lead = left[-1]
        left = [number * other[-1] for number in left]
        for at, number in enumerate(other):
            left[at + shift] -= lead * number
        left = trimmed(left)
    return left


def common_divisor(one, other):
    """The greatest common divisor of two polynomials that are not both 0, primitive."""
    while other != []:
        one, other = other, remainder(primitive(one), primitive(other))
    return primitive(one)


def quotient(one, other):
    """One polynomial divided by another one that divides it, with integers as coefficients."""
    left = list(one)
    found = [0] * max(0, len(one) - len(other) + 1)
    for shift in range(len(found) - 1, -1, -1):
        found[shift] = left[shift + len(other) - 1] // other[-1]
        for at, number in enumerate(other):
            left[at + shift] -= found[shift] * number
    return trimmed(found)
