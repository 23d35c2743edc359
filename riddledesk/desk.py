"""The desk: its solvers, its two riddles and the sheets; and how lines of calls are read and answered."""

from riddledesk.field import Field
from riddledesk.hall import Hall
from riddledesk.riddle import BAD_VALUE, NO_SUCH, NOT_AS_IT_IS
from riddledesk.sheet import THERE_IS, THERE_IS_NONE, Sheet

MOST_SOLVERS = 4

FIELD = 0
HALL = 1

BEGINS_CALL = 0
FIELD_CALL = 1
HALL_CALL = 2
GOOD_CALL = 3
THIN_CALL = 4
MARK_CALL = 6

# How many numbers each call wants that has no list.
WANTED = {0: 1, 3: 1, 4: 1, 5: 2, 6: 4}


class Desk:
    """A desk; its sheets are kept in the order in which they began."""

    def __init__(self):
        self.begins(1)

    def begins(self, solvers):
        """All is new, with so many solvers."""
        if not 1 <= solvers <= MOST_SOLVERS:
            return [BAD_VALUE]
        self.solvers = solvers
        self.riddles = [Field(), Hall()]
        self.sheets = []
        return [0]

    def answer(self, call, told):
        """What a call answers, its lists behind how many numbers they have."""
        before = [riddle.makeup() for riddle in self.riddles]
        answered = self.act(call, told)
        self.forget_sheets(before)
        return answered

    def act(self, call, told):
        """The call is done, whatever becomes of the sheets."""
        if call == BEGINS_CALL:
            return self.begins(told[0])
        if call == FIELD_CALL:
            return self.riddles[FIELD].deed(told)
        if call == HALL_CALL:
            return self.riddles[HALL].deed(told)
        if call == MARK_CALL:
            return self.mark(told[0], told[1], told[2], told[3])
        if told[0] >= len(self.riddles):
            return [NO_SUCH]
        riddle = self.riddles[told[0]]
        if call == GOOD_CALL:
            return riddle.good()
        if call == THIN_CALL:
            return riddle.thin()
        return riddle.fill(told[1])

    def forget_sheets(self, before):
        """Only sheets of riddles that are as they were before stay."""
        same = [riddle.makeup() == makeup for riddle, makeup in zip(self.riddles, before)]
        self.sheets = [sheet for sheet in self.sheets if same[sheet.riddle]]

    def mark(self, solver, riddle, cell, sign):
        """The mark is told of the solver's sheet of the riddle."""
        if solver >= self.solvers or riddle >= len(self.riddles):
            return [NO_SUCH]
        if cell not in self.riddles[riddle].wanting() or sign not in (THERE_IS, THERE_IS_NONE):
            return [BAD_VALUE]
        sheet = self.sheet_of(solver, riddle)
        if sheet is None:
            sheet = Sheet(solver, riddle)
            self.sheets.append(sheet)
        if cell in sheet.marks:
            return [NOT_AS_IT_IS]
        return sheet.mark(self.riddles[riddle].ways(), cell, sign)

    def sheet_of(self, solver, riddle):
        """The solver's sheet of the riddle; None if it hasn't begun."""
        for sheet in self.sheets:
            if sheet.solver == solver and sheet.riddle == riddle:
                return sheet
        return None


def split_calls(calls):
    """Each call's number with the numbers that are told with it."""
    split = []
    at = 0
    while at < len(calls):
        call = calls[at]
        at += 1
        if call in (FIELD_CALL, HALL_CALL):
            many = calls[at]
            at += 1
        else:
            many = WANTED[call]
        split.append((call, calls[at:at + many]))
        at += many
    return split


def answers(calls):
    """What each call answers, one behind another, each behind how many numbers it has."""
    desk = Desk()
    told = []
    for call, numbers in split_calls(calls):
        answered = desk.answer(call, numbers)
        told.append(len(answered))
        told.extend(answered)
    return told
