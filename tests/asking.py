"""How the tests ask: calls as lists of numbers, answers as plain numbers or as lists with their form first."""

from unitsheet.amounts import answers

START = [0]
BACK = [2]
TEXT = [5]
EIGHT = [0] * 8
TWENTY_FOUR = [0] * 24


def counted(row):
    """The bytes of a text, or a list of bytes, with how many they are before them."""
    numbers = list(row.encode("ascii")) if isinstance(row, str) else list(row)
    return [len(numbers)] + numbers


def add(row):
    return [1] + counted(row)


def unit(row):
    return [3] + counted(row)


def value(row, measure):
    return [4] + counted(row) + counted(measure)


def asked(*calls):
    """What each of the calls answers, am_start first; each answer is a list, its form first."""
    told = answers(START + [number for call in calls for number in call])
    parted = []
    at = 0
    while at < len(told):
        parted.append(told[at + 1:at + 1 + told[at]])
        at += 1 + told[at]
    if at != len(told) or parted[:1] != [[0, 0]] or len(parted) != len(calls) + 1:
        raise AssertionError(told)
    return parted[1:]


def behind(row, call):
    """What the call answers once the row, if there is any, has been added."""
    told = asked(*([add(row)] if row else []), call)
    if row and told[0][1] < 0:
        raise AssertionError(told)
    return told[-1]


def unit_of(row, formula):
    """What comes of the formula behind the row: how many places, and the exponents that are not 0; or the refusal."""
    told = behind(row, unit(formula))
    if told[0] == 0:
        return told[1] if len(told) == 2 and told[1] < 0 else told
    if told[0] != 1 or len(told) != 36 or told[2] != 8 or told[11] != 24:
        raise AssertionError(told)
    return told[1], exponents(told[3:11], told[12:])


def exponents(marks, places):
    """The exponents that are not 0, of marks by 0 to 7, of places by "p0" to "p23"."""
    shown = {mark: exponent for mark, exponent in enumerate(marks) if exponent}
    shown.update({"p%d" % place: exponent for place, exponent in enumerate(places) if exponent})
    return shown


def value_of(row, formula, measure="1"):
    """The formula in the measure, behind the row: over and under; or the refusal."""
    told = behind(row, value(formula, measure))
    if told[0] == 0:
        return told[1] if len(told) == 2 and told[1] < 0 else told
    if told[0] != 2 or len(told) != 3:
        raise AssertionError(told)
    return told[1], told[2]


def ask(*calls):
    """What each of the calls answers, am_start first; each answer is one number in form 0."""
    told = answers(START + [number for call in calls for number in call])
    if told[:3] != [2, 0, 0] or len(told) != 3 * len(calls) + 3:
        raise AssertionError(told)
    if any(told[at:at + 2] != [2, 0] for at in range(0, len(told), 3)):
        raise AssertionError(told)
    return told[5::3]


def added(*rows):
    """What am_add answers of the last row, the rows before it having been added."""
    told = ask(*[add(row) for row in rows])
    if any(number < 0 for number in told[:-1]):
        raise AssertionError(told)
    return told[-1]


def repeated_power(formula, powers):
    """The formula raised to one power after the other."""
    for power in powers:
        formula = "(" + formula + ")^" + str(power)
    return formula


def filled_up(row, size):
    """The text with blanks behind it, up to so many bytes."""
    return row + " " * (size - len(row))
