"""Exact fractions.

A fraction is a tuple of a numerator and a denominator above 0, in lowest terms.
"""


def common_divisor(first, second):
    """Answer the greatest common divisor, above 0; second is above 0, first any whole number."""
    while second != 0:
        rest = first % second
        first = second
        second = rest
    return first


def lowest(num, den):
    """Answer num / den as a fraction; den is above 0."""
    divisor = common_divisor(num, den)
    return (num // divisor, den // divisor)


def added(first, second):
    """Answer first + second."""
    return lowest(first[0] * second[1] + second[0] * first[1], first[1] * second[1])


def difference(first, second):
    """Answer first - second."""
    return lowest(first[0] * second[1] - second[0] * first[1], first[1] * second[1])


def product(first, second):
    """Answer first * second."""
    # Cancelled crosswise ahead of the product: if one of them has thousands of digits
    # and the other one is short, each common divisor is found within a few steps.
    left = lowest(first[0], second[1])
    right = lowest(second[0], first[1])
    return (left[0] * right[0], left[1] * right[1])


def quotient(first, second):
    """Answer first / second; second is above 0."""
    return product(first, (second[1], second[0]))


def power(base, exponent):
    """Answer base to a whole exponent of at least 0."""
    num = 1
    den = 1
    for step in range(exponent):
        num *= base[0]
        den *= base[1]
    return (num, den)


def sum_of(fractions):
    """Answer the sum of these fractions, 0 if there are none."""
    whole = (0, 1)
    for fraction in fractions:
        whole = added(whole, fraction)
    return whole


def told(number, fractions):
    """Answer a list of this number and, behind it, each fraction as two numbers."""
    numbers = [number]
    for fraction in fractions:
        numbers.extend(fraction)
    return numbers
