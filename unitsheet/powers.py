"""Powers in balance: products of marks and places, and the most general filling that solves equations.

A product is a list of 32 exponents: those of the 8 marks, then those of the 24 places. Products are never
changed, so that several may share one.
"""

from unitsheet.refusals import NotRight, NotTogether, TooFar

MARKS = 8
PLACES = 24
SIZE = 32
MOST_EQUATIONS = 256
EQUATION_BOUND = 1048576
EXPONENT_BOUND = 1073741824


def nothing():
    return [0] * SIZE


def single(index):
    product = nothing()
    product[index] = 1
    return product


def mark_product(mark):
    return single(mark)


def place_product(place):
    return single(MARKS + place)


def multiplied(one, other):
    return [a + b for a, b in zip(one, other)]


def divided(one, other):
    return [a - b for a, b in zip(one, other)]


def raised(product, power):
    return [a * power for a in product]


def check_exponents(product):
    if max(product) > EXPONENT_BOUND or min(product) < -EXPONENT_BOUND:
        raise TooFar()


def filled_in(product, filling):
    result = product[:MARKS] + [0] * PLACES
    for place, exponent in enumerate(product[MARKS:]):
        if exponent != 0:
            result = multiplied(result, raised(filling[place], exponent))
    return result


def check_equation(equation, places):
    if max(equation) > EQUATION_BOUND or min(equation) < -EQUATION_BOUND:
        raise NotRight()
    if any(equation[MARKS + places:]):
        raise NotRight()


# What the first so many places are filled with, most generally, so that each equation comes to nothing.
def solve(equations, places):
    if len(equations) > MOST_EQUATIONS or places > PLACES:
        raise NotRight()
    for equation in equations:
        check_equation(equation, places)
    filling = [place_product(place) for place in range(PLACES)]
    for equation in equations:
        filling = solve_one(filled_in(equation, filling), filling)
    return filling[:places]


# The filling narrowed so that rest, an equation filled in by it, comes to nothing.
def solve_one(rest, filling):
    check_exponents(rest)
    while any(rest[MARKS:]):
        index = nearest_to_zero(rest)
        change = change_of(rest, index)
        filling = [changed(product, index, change) for product in filling]
        for product in filling:
            check_exponents(product)
        rest = changed(rest, index, change)
        if rest[MARKS:].count(0) == PLACES - 1:
            check_no_mark(rest)
            return [without(product, index) for product in filling]
    check_no_mark(rest)
    return filling


def check_no_mark(rest):
    if any(rest[:MARKS]):
        raise NotTogether()


# The first of the places whose exponent is nearest to 0 but not 0, as its index in a product.
def nearest_to_zero(rest):
    indexes = [index for index in range(MARKS, SIZE) if rest[index] != 0]
    return min(indexes, key=lambda index: abs(rest[index]))


# What the place brings with it from now on, itself left out, so that the others' exponents grow smaller.
def change_of(rest, index):
    divisor = rest[index]
    change = [-(exponent // divisor) for exponent in rest]
    change[index] = 0
    return change


def changed(product, index, change):
    exponent = product[index]
    if exponent == 0:
        return product
    return multiplied(product, raised(change, exponent))


def without(product, index):
    result = list(product)
    result[index] = 0
    return result
