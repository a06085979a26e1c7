"""Polynomials with integers as coefficients, as lists from t^0 on."""

from math import gcd

from yardsort.errors import NotPolynomial


def is_polynomial(numbers):
    """Return whether a list of integers is a polynomial."""
    return len(numbers) == 0 or numbers[-1] != 0


def _check(one, other):
    if not is_polynomial(one) or not is_polynomial(other):
        raise NotPolynomial("the last coefficient is 0")


def trimmed(numbers):
    """Return the polynomial of a list of coefficients, which may end with zeros."""
    size = len(numbers)
    while size > 0 and numbers[size - 1] == 0:
        size -= 1
    return numbers[:size]


def add(one, other):
    """Return the sum of two polynomials."""
    _check(one, other)
    total = [0] * max(len(one), len(other))
    for at, number in enumerate(one):
        total[at] += number
    for at, number in enumerate(other):
        total[at] += number
    return trimmed(total)


def multiply(one, other):
    """Return the product of two polynomials."""
    _check(one, other)
    if len(one) == 0 or len(other) == 0:
        return []
    total = [0] * (len(one) + len(other) - 1)
    for at, number in enumerate(one):
        for by, factor in enumerate(other):
            total[at + by] += number * factor
    return total


def _content(numbers):
    """Return the greatest integer that divides all coefficients, or 0 if all are 0."""
    content = 0
    for number in numbers:
        content = gcd(content, number)
    return content


def _primitive(numbers):
    """Return a polynomial divided by its content."""
    content = _content(numbers)
    return [number // content for number in numbers]


def _remainder(one, other):
    """Return a remainder of a multiple of the first polynomial that is not 0.

    The first one is multiplied just as far as it must be so that the second
    one, which is not 0, can be taken from it without fractions.
    """
    rest = one
    while len(rest) >= len(other):
        common = gcd(rest[-1], other[-1])
        stretch = other[-1] // common
        factor = rest[-1] // common
        shift = len(rest) - len(other)
        longer = [number * stretch for number in rest]
        for at, number in enumerate(other):
            longer[at + shift] -= factor * number
        rest = trimmed(longer)
    return rest


def greatest_common(one, other):
    """Return the greatest common divisor of two polynomials."""
    _check(one, other)
    content = _content(one + other)
    left = _primitive(one)
    right = _primitive(other)
    while len(right) > 0:
        left, right = right, _primitive(_remainder(left, right))
    if len(left) > 0 and left[-1] < 0:
        content = -content
    return [number * content for number in left]


def divided(one, other):
    """Return the polynomial whose product with the second one is the first one, or None."""
    _check(one, other)
    if len(other) == 0:
        return None
    rest = list(one)
    quotient = [0] * max(len(one) - len(other) + 1, 0)
    for shift in range(len(one) - len(other), -1, -1):
        factor, left = divmod(rest[-1], other[-1])
        if left != 0:
            return None
        for at, number in enumerate(other):
            rest[at + shift] -= factor * number
        rest.pop()
        quotient[shift] = factor
    return quotient if len(trimmed(rest)) == 0 else None
