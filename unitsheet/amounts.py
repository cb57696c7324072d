"""The calls on one object, told and answered in numbers."""

from unitsheet.fraction import quotient_of
from unitsheet.kinds import check_alike
from unitsheet.powers import MARKS, PLACES
from unitsheet.refusals import NothingThere, NotRight, Refusal
from unitsheet.sheets import empty_sheet, formula_behind, longer_sheet
from unitsheet.worth import worth_of

AM_START = 0
AM_ADD = 1
AM_BACK = 2
AM_UNIT = 3
AM_VALUE = 4
AM_TEXT = 5
# How many rows a call has that has any.
ROWS = {1: 1, 3: 1, 4: 2}
PLAIN_FORM = 0
UNIT_FORM = 1
VALUE_FORM = 2
TEXT_FORM = 3


# Keeps the sheet, last in a list, behind those that it was before each adding.
class Amounts:
    def __init__(self):
        self.sheets = [empty_sheet()]

    def am_start(self):
        self.sheets = [empty_sheet()]
        return 0

    def am_add(self, row):
        if len(row) == 0:
            raise NotRight()
        sheet = longer_sheet(self.sheets[-1], row)
        self.sheets.append(sheet)
        return len(sheet.named)

    def am_back(self):
        if len(self.sheets) == 1:
            raise NothingThere()
        self.sheets.pop()
        return len(self.sheets[-1].row)

    # The formula's kind.
    def am_unit(self, row):
        return formula_behind(self.sheets[-1], row).kind

    # How often the second formula's worth goes into the first one's, as a fraction.
    def am_value(self, row, measure_row):
        sheet = self.sheets[-1]
        formula = formula_behind(sheet, row)
        measure = formula_behind(sheet, measure_row)
        check_alike(formula.kind, measure.kind)
        worth = worth_of(formula.item, sheet.named)
        measure_worth = worth_of(measure.item, sheet.named)
        return quotient_of(worth, measure_worth)

    def am_text(self):
        return list(self.sheets[-1].row)


def answers(calls):
    amounts = Amounts()
    told = []
    at = 0
    while at < len(calls):
        rows = rows_of(calls, at)
        answer = answer_of(amounts, calls[at], rows)
        told.append(len(answer))
        told.extend(answer)
        at += 1 + sum([1 + len(row) for row in rows])
    return told


def rows_of(calls, at):
    rows = []
    start = at + 1
    for number in range(ROWS.get(calls[at], 0)):
        end = start + 1 + calls[start]
        rows.append(calls[start + 1:end])
        start = end
    return rows


def answer_of(amounts, call, rows):
    try:
        return told_of(amounts, call, rows)
    except Refusal as refusal:
        return [PLAIN_FORM, refusal.code]


def told_of(amounts, call, rows):
    if call == AM_START:
        return [PLAIN_FORM, amounts.am_start()]
    if call == AM_ADD:
        return [PLAIN_FORM, amounts.am_add(rows[0])]
    if call == AM_BACK:
        return [PLAIN_FORM, amounts.am_back()]
    if call == AM_UNIT:
        return told_unit(amounts.am_unit(rows[0]))
    if call == AM_VALUE:
        return told_value(amounts.am_value(rows[0], rows[1]))
    return told_text(amounts.am_text())


def told_unit(kind):
    return [UNIT_FORM, kind.places, MARKS] + kind.comes[:MARKS] + [PLACES] + kind.comes[MARKS:]


def told_value(fraction):
    return [VALUE_FORM, fraction.over, fraction.under]


def told_text(row):
    return [TEXT_FORM, len(row)] + row
