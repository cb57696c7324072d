"""Sheets that are right and go together, what is put behind them, and formulas that are asked of them.

Such a sheet ends where an item does, and what is put behind it changes nothing of what is before it. So of the
longer sheet only the bytes that are new are read; what is answered is the same as if all of it were.
"""

from unitsheet.grammar import formula_of, items_of
from unitsheet.kinds import found_kind, unit_kind
from unitsheet.refusals import NotRight, TooMuch
from unitsheet.tokens import tokens_of

MOST_BYTES = 8192
MOST_BYTES_WITH_FORMULA = 8000
# A formula is read as an amount: let, its name and = before it, ; behind it.
TOKENS_ABOUT_FORMULA = 4
MOST_TOKENS = 2048
MOST_ITEMS = 64
MOST_UNITS = 8
MOST_PARAMETERS = 6


# Its bytes, how many tokens they are, and its items and their kinds by name, in order. It is never changed.
class Sheet:
    def __init__(self, row, tokens, named, kinds):
        self.row = row
        self.tokens = tokens
        self.named = named
        self.kinds = kinds


# A formula that is right behind a sheet, read as an amount, and its kind.
class Formula:
    def __init__(self, item, kind):
        self.item = item
        self.kind = kind


def empty_sheet():
    return Sheet([], 0, {}, {})


# A row that is too long by itself makes the sheet too long, too: neither is looked at.
def longer_sheet(sheet, row):
    if len(sheet.row) + len(row) > MOST_BYTES:
        raise TooMuch()
    tokens = tokens_of(row)
    check_tokens(sheet.tokens + len(tokens))
    before = list(sheet.named.values())
    items = items_of(tokens)
    check_counts(before + items)
    named = named_with(sheet.named, items)
    kinds = kinds_with(sheet.kinds, items, len(units_of(before)))
    return Sheet(sheet.row + row, sheet.tokens + len(tokens), named, kinds)


# A row that is too long by itself is too long with the sheet, too.
def formula_behind(sheet, row):
    if len(sheet.row) + len(row) > MOST_BYTES_WITH_FORMULA:
        raise TooMuch()
    tokens = tokens_of(row)
    check_tokens(sheet.tokens + TOKENS_ABOUT_FORMULA + len(tokens))
    item = formula_of(tokens)
    check_counts(list(sheet.named.values()) + [item])
    check_right(item, sheet.named)
    return Formula(item, found_kind(item, sheet.kinds))


def check_tokens(count):
    if count > MOST_TOKENS:
        raise TooMuch()


def units_of(items):
    return [item for item in items if item.word == "unit"]


def check_counts(items):
    if len(items) > MOST_ITEMS or len(units_of(items)) > MOST_UNITS:
        raise TooMuch()
    for item in items:
        if len(item.parameters) > MOST_PARAMETERS:
            raise TooMuch()


def named_with(before, items):
    named = dict(before)
    for item in items:
        check_right(item, named)
        named[item.name] = item
    return named


def check_right(item, before):
    if item.name in before:
        raise NotRight()
    own = {}
    for parameter in item.parameters:
        if parameter in own or parameter in before:
            raise NotRight()
        own[parameter] = True
    for step in item.steps:
        if step[0] == "name" and step[1] not in own:
            check_used(step[1], before)
        elif step[0] == "call":
            check_called(step[1][0], step[1][1], before)


def check_used(name, before):
    if name not in before or before[name].word == "fn":
        raise NotRight()


def check_called(name, count, before):
    if name not in before or before[name].word != "fn":
        raise NotRight()
    if len(before[name].parameters) != count:
        raise NotRight()


# The units' marks go on from how many units there are before.
def kinds_with(before, items, units):
    kinds = dict(before)
    mark = units
    for item in items:
        if item.word == "unit":
            kinds[item.name] = unit_kind(mark)
            mark += 1
        else:
            kinds[item.name] = found_kind(item, kinds)
    return kinds
