"""What is refused, one error class for each; each knows the number that it is answered by."""


class Refusal(Exception):
    def __init__(self, code):
        self.code = code


# Nothing was added that could be taken back.
class NothingThere(Refusal):
    def __init__(self):
        Refusal.__init__(self, -2)


# No bytes, a sheet that is not right, or an equation beyond its bounds.
class NotRight(Refusal):
    def __init__(self):
        Refusal.__init__(self, -22)


# Something divided by 0.
class DividedByNothing(Refusal):
    def __init__(self):
        Refusal.__init__(self, -33)


# More bytes, tokens, items, units, parameters, places or equations than there may be.
class TooMuch(Refusal):
    def __init__(self):
        Refusal.__init__(self, -28)


# An equation that no filling solves.
class NotTogether(Refusal):
    def __init__(self):
        Refusal.__init__(self, -61)


# A formula that takes more steps than there may be.
class TooManySteps(Refusal):
    def __init__(self):
        Refusal.__init__(self, -62)


# Bytes that are no sheet, or no formula, by tokens or by grammar.
class NoSheet(Refusal):
    def __init__(self):
        Refusal.__init__(self, -71)


# An exponent, or a number of a fraction, beyond its bounds.
class TooFar(Refusal):
    def __init__(self):
        Refusal.__init__(self, -75)
