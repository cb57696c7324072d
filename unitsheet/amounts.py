"""The calls on one object, told and answered in numbers."""

from unitsheet.refusals import NothingThere, NotRight, Refusal
from unitsheet.sheets import empty_sheet, longer_sheet

AM_START = 0
AM_ADD = 1
AM_BACK = 2
PLAIN_FORM = 0


# Keeps the sheet, last in a list, behind those that it was before each adding.
class Amounts:
    def __init__(self):
        self.sheets = [empty_sheet()]

    def am_start(self):
        self.sheets = [empty_sheet()]
        return 0

    def am_add(self, row):
        if len(row) == 0:
            raise NotRight()
        sheet = longer_sheet(self.sheets[-1], row)
        self.sheets.append(sheet)
        return len(sheet.named)

    def am_back(self):
        if len(self.sheets) == 1:
            raise NothingThere()
        self.sheets.pop()
        return len(self.sheets[-1].row)


def answers(calls):
    amounts = Amounts()
    told = []
    at = 0
    while at < len(calls):
        rows = rows_of(calls, at)
        answer = answer_of(amounts, calls[at], rows)
        told.append(len(answer))
        told.extend(answer)
        at += 1 + sum([1 + len(row) for row in rows])
    return told


def rows_of(calls, at):
    if calls[at] != AM_ADD:
        return []
    start = at + 2
    return [calls[start:start + calls[at + 1]]]


def answer_of(amounts, call, rows):
    try:
        return [PLAIN_FORM, number_of(amounts, call, rows)]
    except Refusal as refusal:
        return [PLAIN_FORM, refusal.code]


def number_of(amounts, call, rows):
    if call == AM_START:
        return amounts.am_start()
    if call == AM_ADD:
        return amounts.am_add(rows[0])
    if call == AM_BACK:
        return amounts.am_back()
    raise NotImplementedError("am_unit, am_value and am_text are not there yet")
