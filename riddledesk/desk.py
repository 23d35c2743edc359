"""The desk: its solvers, its two riddles and the sheets; and how lines of calls are read and answered."""

from riddledesk.field import Field
from riddledesk.hall import Hall
from riddledesk.riddle import BAD_VALUE, NO_SUCH
from riddledesk.sheet import THERE_IS, THERE_IS_NONE, Sheet

MOST_SOLVERS = 4

FIELD = 0
HALL = 1

BEGINS_CALL = 0
FIELD_CALL = 1
HALL_CALL = 2
GOOD_CALL = 3
THIN_CALL = 4
FILL_CALL = 5
MARK_CALL = 6
RUB_CALL = 7
NEXT_CALL = 8
SHEET_CALL = 9
STANDING_CALL = 11
STATE_CALL = 12

# How many numbers each call wants that has no list.
WANTED = {0: 1, 3: 1, 4: 1, 5: 2, 6: 4, 7: 3, 8: 2, 9: 2, 10: 2, 11: 0, 12: 0}


class Desk:
    """A desk; its sheets are kept in the order in which they began."""

    def __init__(self):
        self.begins(1)

    def begins(self, solvers):
        """All is new, with so many solvers."""
        if not 1 <= solvers <= MOST_SOLVERS:
            return [BAD_VALUE]
        self.solvers = solvers
        self.riddles = [Field(), Hall()]
        self.sheets = []
        return [0]

    def answer(self, call, told):
        """What a call answers, its lists behind how many numbers they have."""
        before = [riddle.makeup() for riddle in self.riddles]
        answered = self.act(call, told)
        self.forget_sheets(before)
        return answered

    def act(self, call, told):
        """The call is done, whatever becomes of the sheets."""
        if call == BEGINS_CALL:
            return self.begins(told[0])
        if call == FIELD_CALL:
            return self.riddles[FIELD].deed(told)
        if call == HALL_CALL:
            return self.riddles[HALL].deed(told)
        if call == STANDING_CALL:
            return self.standing()
        if call == STATE_CALL:
            return self.state()
        if call in (GOOD_CALL, THIN_CALL, FILL_CALL):
            return self.of_riddle(call, told)
        return self.of_sheet(call, told)

    def of_riddle(self, call, told):
        """What a call answers that is told with a riddle alone."""
        if told[0] >= len(self.riddles):
            return [NO_SUCH]
        riddle = self.riddles[told[0]]
        if call == GOOD_CALL:
            return riddle.good()
        if call == THIN_CALL:
            return riddle.thin()
        return riddle.fill(told[1])

    def of_sheet(self, call, told):
        """What a call answers that is told with a solver and a riddle."""
        if told[0] >= self.solvers or told[1] >= len(self.riddles):
            return [NO_SUCH]
        riddle = self.riddles[told[1]]
        sheet = self.sheet_of(told[0], told[1])
        if call == MARK_CALL:
            return self.mark(riddle, sheet, told[2], told[3])
        if call == RUB_CALL:
            return sheet.rub(told[2])
        if call == NEXT_CALL:
            return sheet.next_sure(riddle.ways(), riddle.wanting())
        if call == SHEET_CALL:
            return sheet.shown()
        return sheet.done(riddle.ways(), riddle.wanting())

    def forget_sheets(self, before):
        """Only sheets of riddles that are as they were before stay."""
        same = [riddle.makeup() == makeup for riddle, makeup in zip(self.riddles, before)]
        self.sheets = [sheet for sheet in self.sheets if same[sheet.riddle]]

    def sheet_of(self, solver, riddle):
        """The solver's sheet of the riddle; if it hasn't begun, one without marks that isn't kept yet."""
        for sheet in self.sheets:
            if sheet.solver == solver and sheet.riddle == riddle:
                return sheet
        return Sheet(solver, riddle)

    def mark(self, riddle, sheet, cell, sign):
        """The mark is told of the sheet, which is kept from its first one on."""
        if cell not in riddle.wanting() or sign not in (THERE_IS, THERE_IS_NONE):
            return [BAD_VALUE]
        if not sheet.has_begun():
            self.sheets.append(sheet)
        return sheet.mark(riddle.ways(), cell, sign)

    def standing(self):
        """How many solvers; each with their points, those with more first."""
        points = [0] * self.solvers
        for sheet in self.sheets:
            points[sheet.solver] += sheet.points()
        ranked = []
        # By the points below 0, so that of as many the lesser solver comes first.
        for lost, solver in sorted([(-points[solver], solver) for solver in range(self.solvers)]):
            ranked = ranked + [solver, -lost]
        return [self.solvers, len(ranked)] + ranked

    def state(self):
        """How many solvers; the sheets in the order in which they began."""
        shown = []
        for sheet in self.sheets:
            shown = shown + [sheet.solver, sheet.riddle, len(sheet.marks)] + sheet.kinds()
        return [self.solvers, len(shown)] + shown


def split_calls(calls):
    """Each call's number with the numbers that are told with it."""
    split = []
    at = 0
    while at < len(calls):
        call = calls[at]
        at += 1
        if call in (FIELD_CALL, HALL_CALL):
            many = calls[at]
            at += 1
        else:
            many = WANTED[call]
        split.append((call, calls[at:at + many]))
        at += many
    return split


def answers(calls):
    """What each call answers, one behind another, each behind how many numbers it has."""
    desk = Desk()
    told = []
    for call, numbers in split_calls(calls):
        answered = desk.answer(call, numbers)
        told.append(len(answered))
        told.extend(answered)
    return told
