"""Exact numbers: tuples (n, d) in lowest terms, d at least 1 (point 1)."""

from math import gcd, lcm

ZERO = (0, 1)
ONE = (1, 1)
SHORT_BELOW = 1000


def is_whole(value):
    """True if the value is a whole number; True and False are none."""
    return isinstance(value, int) and not isinstance(value, bool)


def is_short(value):
    """True if the value, which may be anything, is a short number."""
    if not isinstance(value, tuple) or len(value) != 2:
        return False
    n, d = value
    if not is_whole(n) or not is_whole(d):
        return False
    return abs(n) < SHORT_BELOW and 1 <= d < SHORT_BELOW and gcd(n, d) == 1


def lowest(n, d):
    """The number n divided by d, where d is at least 1."""
    common = gcd(n, d)
    return (n // common, d // common)


def plus(a, b):
    """The sum of two numbers."""
    return lowest(a[0] * b[1] + b[0] * a[1], a[1] * b[1])


def minus(a, b):
    """The first number less the second one."""
    return lowest(a[0] * b[1] - b[0] * a[1], a[1] * b[1])


def times(a, b):
    """The product of two numbers."""
    # Reduced crosswise: so a long number times a short one needs no divisor of two long ones.
    left = gcd(a[0], b[1])
    right = gcd(b[0], a[1])
    return ((a[0] // left) * (b[0] // right), (a[1] // right) * (b[1] // left))


def divided(a, b):
    """The first number divided by the second one, which is greater than 0."""
    return lowest(a[0] * b[1], a[1] * b[0])


def negative(a):
    """The number with the other sign."""
    n, d = a
    return (-n, d)


def total(numbers):
    """The sum of a list of numbers."""
    found = ZERO
    for number in numbers:
        found = plus(found, number)
    return found


def is_less(a, b):
    """True if the first number is less than the second one."""
    return a[0] * b[1] < b[0] * a[1]


def greatest(numbers):
    """The greatest number of a list that is not empty."""
    found = numbers[0]
    for number in numbers:
        if is_less(found, number):
            found = number
    return found


def least(numbers):
    """The least number of a list that is not empty."""
    found = numbers[0]
    for number in numbers:
        if is_less(number, found):
            found = number
    return found


def width(numbers):
    """The greatest number of a list that is not empty less the least one."""
    return minus(greatest(numbers), least(numbers))


def common_denominator(numbers):
    """The least whole number from 1 on by which each number of the list becomes whole."""
    found = 1
    for _, d in numbers:
        found = lcm(found, d)
    return found


def whole_at(number, denominator):
    """The number times the denominator, as a whole number; its own d divides the denominator."""
    n, d = number
    return n * (denominator // d)
