"""Series: the numbers of the tiles in the rings of a floor, told by one fraction."""

from foldfloor.errors import BadNumber, NotSeries
from foldfloor.orders import check_orders, kind_of
from foldfloor.polynomials import added, common_divisor, multiplied, product_of, quotient
from foldfloor.polynomials import row_of_ones, trimmed

MOST_TERMS = 200

# The degrees of the round floors with the orders 2, 3 and this one.
DEGREES = {3: (2, 3, 4), 4: (2, 4, 6), 5: (2, 6, 10)}


def round_series(orders):
    """The fraction W of a round floor: the rows of ones of its degrees, multiplied."""
    low, middle, high = sorted(orders)
    degrees = (low, middle, high) if middle == 2 else DEGREES[high]
    return product_of([row_of_ones(degree) for degree in degrees]), [1]


def wide_series(orders):
    """The fraction W of a floor that is not round, not yet reduced.

    W(1/t) is (1 + t) P divided by (t - 2) P + the sum of P / [m], where P is the product of all [m].
    Numerator and denominator have the same degree, so W itself has their coefficients backwards.
    """
    rows = [row_of_ones(order) for order in orders if order != 0]
    whole = product_of(rows)
    below = multiplied([-2, 1], whole)
    for row in rows:
        below = added(below, quotient(whole, row))
    above = multiplied([1, 1], whole)
    return trimmed(above[::-1]), trimmed(below[::-1])


def in_lowest_terms(above, below):
    """The reduced fraction of two polynomials; the first coefficient of the second one is 1."""
    common = common_divisor(above, below)
    # The first coefficient of a divisor divides 1.
    if common[0] < 0:
        common = [-number for number in common]
    return quotient(above, common), quotient(below, common)


def series(orders):
    """The fraction W whose series has the numbers of the tiles in the rings."""
    check_orders(orders)
    if kind_of(orders) == "round":
        return round_series(orders)
    above, below = wide_series(orders)
    return in_lowest_terms(above, below)


def is_polynomial(numbers):
    """Whether a list of integers is a polynomial."""
    return numbers == [] or numbers[-1] != 0


def check_fraction(fraction):
    """Raises NotSeries for a tuple of two lists of integers that is not a fraction."""
    above, below = fraction
    if not is_polynomial(above) or not is_polynomial(below):
        raise NotSeries("the last coefficient of a polynomial is not 0")
    if below == [] or below[0] != 1:
        raise NotSeries("the first coefficient of a denominator is 1")


def terms(fraction, many):
    """The first so many coefficients of the series of a fraction."""
    above, below = fraction
    found = []
    for at in range(many):
        number = above[at] if at < len(above) else 0
        for back in range(1, min(at, len(below) - 1) + 1):
            number -= below[back] * found[at - back]
        found.append(number)
    return found


def expand(fraction, n):
    """The coefficients e(0) to e(n) of the series of a fraction."""
    check_fraction(fraction)
    if not 0 <= n <= MOST_TERMS:
        raise BadNumber(f"a series is expanded up to a number from 0 to {MOST_TERMS}")
    return terms(fraction, n + 1)


def is_reduced(fraction):
    """Whether nothing of degree 1 or more divides both polynomials of a fraction."""
    check_fraction(fraction)
    above, below = fraction
    return len(common_divisor(above, below)) == 1
