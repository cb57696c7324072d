"""The most general kinds of an item of a right sheet."""

from unitsheet.powers import (
    MARKS,
    MOST_EQUATIONS,
    PLACES,
    check_exponents,
    divided,
    filled_in,
    mark_product,
    multiplied,
    nothing,
    place_product,
    raised,
    solve,
)
from unitsheet.refusals import TooMuch


# The parameters' kinds (of) and that of what comes, in places 0 up to how many there are.
class Kind:
    def __init__(self, of, comes, places):
        self.of = of
        self.comes = comes
        self.places = places


# Goes through an item's steps; keeps how many places have come, what is told to be alike, and what awaits its sign.
class Finder:
    def __init__(self, kinds):
        self.kinds = kinds
        self.own = {}
        self.places = 0
        self.equations = []
        self.stack = []

    # The number of the first of so many new places.
    def new_places(self, count):
        first = self.places
        if first + count > PLACES:
            raise TooMuch()
        self.places = first + count
        return first

    def add_parameter(self, name):
        self.own[name] = place_product(self.new_places(1))

    def tell_alike(self, one, other):
        self.equations.append(divided(one, other))

    def put_product(self, product):
        check_exponents(product)
        self.stack.append(product)

    def follow(self, step):
        what = step[0]
        if what == "number":
            self.put_number(step[1])
        elif what == "name":
            self.put_name(step[1])
        elif what == "call":
            self.put_call(step[1][0], step[1][1])
        elif what == "^":
            self.put_product(raised(self.stack.pop(), step[1]))
        elif what not in ("minus", "else"):
            self.join_two(what)

    def put_number(self, number):
        if number.over == 0:
            self.stack.append(place_product(self.new_places(1)))
        else:
            self.stack.append(nothing())

    def put_name(self, name):
        if name in self.own:
            self.stack.append(self.own[name])
        else:
            kind = self.kinds[name]
            self.stack.append(moved(kind.comes, self.new_places(kind.places)))

    def put_call(self, name, count):
        kind = self.kinds[name]
        first = self.new_places(kind.places)
        start = len(self.stack) - count
        for given, parameter in zip(self.stack[start:], kind.of):
            self.tell_alike(given, moved(parameter, first))
        self.stack = self.stack[:start]
        self.stack.append(moved(kind.comes, first))

    def join_two(self, what):
        second = self.stack.pop()
        first = self.stack.pop()
        if what == "*":
            self.put_product(multiplied(first, second))
        elif what == "/":
            self.put_product(divided(first, second))
        else:
            self.tell_alike(first, second)
            # What is compared only chooses: nothing is made of it.
            if what != "<":
                self.stack.append(first)


# The product with its place 0 as place first, and so on; there is room for all that it has.
def moved(product, first):
    places = product[MARKS:]
    return product[:MARKS] + [0] * first + places[:PLACES - first]


def unit_kind(mark):
    return Kind([], mark_product(mark), 0)


# The kinds of an amount or a function; kinds has those of the items before it, by name.
def found_kind(item, kinds):
    finder = Finder(kinds)
    for name in item.parameters:
        finder.add_parameter(name)
    for step in item.steps:
        finder.follow(step)
    if len(finder.equations) > MOST_EQUATIONS:
        raise TooMuch()
    return told_kind(finder, solve(finder.equations, finder.places))


# What comes of two items, each with places of its own, can be alike.
def check_alike(one, other):
    places = one.places + other.places
    if places > PLACES:
        raise TooMuch()
    solve([divided(one.comes, moved(other.comes, one.places))], places)


def told_kind(finder, filling):
    of = [filled_in(product, filling) for product in finder.own.values()]
    comes = filled_in(finder.stack[0], filling)
    for product in of + [comes]:
        check_exponents(product)
    numbers = new_numbers(of + [comes])
    return Kind([renumbered(product, numbers) for product in of], renumbered(comes, numbers), len(numbers))


# For each place that is left its new number, as they come first.
def new_numbers(products):
    numbers = {}
    for product in products:
        for place, exponent in enumerate(product[MARKS:]):
            if exponent != 0 and place not in numbers:
                numbers[place] = len(numbers)
    return numbers


def renumbered(product, numbers):
    result = product[:MARKS] + [0] * PLACES
    for place, number in numbers.items():
        result[MARKS + number] = product[MARKS + place]
    return result
