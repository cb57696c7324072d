"""How the tests ask: calls as lists of numbers, answers as plain numbers."""

from unitsheet.amounts import answers

START = [0]
BACK = [2]


def add(row):
    """The call am_add of a text, or of a list of bytes."""
    numbers = list(row.encode("ascii")) if isinstance(row, str) else list(row)
    return [1, len(numbers)] + numbers


def ask(*calls):
    """What each of the calls answers, am_start first; each answer is one number in form 0."""
    told = answers(START + [number for call in calls for number in call])
    if told[:3] != [2, 0, 0] or len(told) != 3 * len(calls) + 3:
        raise AssertionError(told)
    if any(told[at:at + 2] != [2, 0] for at in range(0, len(told), 3)):
        raise AssertionError(told)
    return told[5::3]


def added(*rows):
    """What am_add answers of the last row, the rows before it having been added."""
    told = ask(*[add(row) for row in rows])
    if any(number < 0 for number in told[:-1]):
        raise AssertionError(told)
    return told[-1]


def repeated_power(formula, powers):
    """The formula raised to one power after the other."""
    for power in powers:
        formula = "(" + formula + ")^" + str(power)
    return formula


def filled_up(row, size):
    """The text with blanks behind it, up to so many bytes."""
    return row + " " * (size - len(row))
