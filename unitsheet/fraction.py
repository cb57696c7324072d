"""Fractions in lowest terms, exact, with bounds above and below the line."""

from unitsheet.refusals import DividedByNothing, TooFar

LARGEST = 9223372036854775807


# In lowest terms: over has the sign, under is above 0. It is never changed, so that several may share one.
class Fraction:
    def __init__(self, over, under):
        self.over = over
        self.under = under


def whole(number):
    return Fraction(number, 1)


# What the digits of a number say, with or without a point.
def written_fraction(number):
    parts = number.partition(".")
    behind = parts[2]
    return lowest(int(parts[0] + behind), int("1" + "0" * len(behind)))


def lowest(over, under):
    if under == 0:
        raise DividedByNothing()
    divisor = common_divisor(abs(over), abs(under))
    if under < 0:
        divisor = -divisor
    return within_bounds(over // divisor, under // divisor)


def within_bounds(over, under):
    if abs(over) > LARGEST or under > LARGEST:
        raise TooFar()
    return Fraction(over, under)


def common_divisor(larger, smaller):
    while smaller != 0:
        rest = larger % smaller
        larger = smaller
        smaller = rest
    return larger


def sum_of(first, second):
    return lowest(first.over * second.under + second.over * first.under, first.under * second.under)


def difference_of(first, second):
    return sum_of(first, turned(second))


def product_of(first, second):
    return lowest(first.over * second.over, first.under * second.under)


def quotient_of(first, second):
    return lowest(first.over * second.under, first.under * second.over)


# The same as far from 0 on the other side.
def turned(fraction):
    return Fraction(-fraction.over, fraction.under)


def power_of(fraction, power):
    over = 1
    under = 1
    for repeat in range(abs(power)):
        over *= fraction.over
        under *= fraction.under
    result = within_bounds(over, under)
    return quotient_of(whole(1), result) if power < 0 else result


def is_less(first, second):
    return first.over * second.under < second.over * first.under
