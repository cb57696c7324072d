"""What a formula is worth, worked out from left to right.

Amounts and functions may lie deeper in one another than Python lets calls lie: so a loop goes through their steps,
and those that have been begun and are not at their end wait in a list.
"""

from unitsheet.fraction import difference_of, is_less, power_of, product_of, quotient_of, sum_of, turned, whole
from unitsheet.refusals import TooManySteps

MOST_STEPS = 100000


# An item that has been begun: which of its steps comes next, and what its parameters are worth, by name.
class Course:
    def __init__(self, item, given):
        self.item = item
        self.given = given
        self.at = 0


# Keeps what has been begun, how many steps have been counted, and the fractions that await their sign.
class Reckoner:
    def __init__(self, named):
        self.named = named
        self.courses = []
        self.counted = 0
        self.stack = []

    def begin(self, item, given):
        self.courses.append(Course(item, given))

    def go_on(self):
        course = self.courses[-1]
        at = course.at
        if at == len(course.item.steps):
            self.courses.pop()
        else:
            course.at = at + 1
            self.count_steps(course.item.begins[at])
            self.follow(course.item.steps[at], course)

    def count_steps(self, count):
        self.counted += count
        if self.counted > MOST_STEPS:
            raise TooManySteps()

    def follow(self, step, course):
        what = step[0]
        if what == "number":
            self.stack.append(step[1])
        elif what == "name":
            self.put_name(step[1], course)
        elif what == "call":
            self.begin_call(step[1][0])
        elif what == "^":
            self.stack.append(power_of(self.stack.pop(), step[1]))
        elif what == "minus":
            self.stack.append(turned(self.stack.pop()))
        elif what == "<":
            self.choose(step[1], course)
        elif what == "else":
            course.at = step[1]
        elif what != "if":
            self.join_two(what)

    # A parameter may have the name of a later item, which then isn't meant.
    def put_name(self, name, course):
        if name in course.given:
            self.stack.append(course.given[name])
        elif self.named[name].word == "unit":
            self.stack.append(whole(1))
        else:
            self.begin(self.named[name], {})

    def begin_call(self, name):
        item = self.named[name]
        given = {}
        for parameter in reversed(item.parameters):
            given[parameter] = self.stack.pop()
        self.begin(item, given)

    def choose(self, otherwise, course):
        second = self.stack.pop()
        first = self.stack.pop()
        if not is_less(first, second):
            course.at = otherwise

    def join_two(self, sign):
        second = self.stack.pop()
        first = self.stack.pop()
        self.stack.append(joined(sign, first, second))


def joined(sign, first, second):
    if sign == "+":
        return sum_of(first, second)
    if sign == "-":
        return difference_of(first, second)
    if sign == "*":
        return product_of(first, second)
    return quotient_of(first, second)


# What an amount is worth; named has the items of its sheet.
def worth_of(item, named):
    reckoner = Reckoner(named)
    reckoner.begin(item, {})
    while len(reckoner.courses) > 0:
        reckoner.go_on()
    return reckoner.stack[0]
