"""A solver's sheet of a riddle: its marks, and how many of each kind were told."""

SURE = 2
MAY_BE = 1
CANT_BE = 0

THERE_IS = 1
THERE_IS_NONE = 2


class Sheet:
    """Marks by their cells; told counts the marks that were told, made or not, by their kind."""

    def __init__(self, solver, riddle):
        self.solver = solver
        self.riddle = riddle
        self.marks = {}
        self.told = [0, 0, 0]

    def left(self, ways):
        """Those of the ways that have all marks so."""
        for cell in self.marks:
            ways = having(ways, cell, self.marks[cell])
        return ways

    def mark(self, ways, cell, sign):
        """The mark is told and, unless it can't be, made: its kind; how many of the ways are left then."""
        before = self.left(ways)
        behind = having(before, cell, sign)
        if not behind:
            self.told[CANT_BE] += 1
            return [CANT_BE, 1, len(before)]
        kind = SURE if len(behind) == len(before) else MAY_BE
        self.told[kind] += 1
        self.marks[cell] = sign
        return [kind, 1, len(behind)]


def having(ways, cell, sign):
    """Those of the ways that have the cell as the sign tells."""
    return [way for way in ways if (cell in way) == (sign == THERE_IS)]
