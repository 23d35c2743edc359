"""A solver's sheet of a riddle: its marks, and how many of each kind were told."""

from riddledesk.riddle import NOT_AS_IT_IS, NOT_ENOUGH

SURE = 2
MAY_BE = 1
CANT_BE = 0

THERE_IS = 1
THERE_IS_NONE = 2

SURE_GAINS = 2
MAY_BE_GAINS = 1
CANT_BE_LOSES = 3


class Sheet:
    """Marks by their cells; told counts the marks that were told, made or not, by their kind."""

    def __init__(self, solver, riddle):
        self.solver = solver
        self.riddle = riddle
        self.marks = {}
        self.told = [0, 0, 0]

    def has_begun(self):
        """Whether a mark was ever told of it, even if none is on it now."""
        return sum(self.told) > 0

    def left(self, ways):
        """Those of the ways that have all marks so."""
        for cell in self.marks:
            ways = having(ways, cell, self.marks[cell])
        return ways

    def unmarked(self, wanting):
        """Those of the cells that want a mark which have none yet."""
        return [cell for cell in wanting if cell not in self.marks]

    def mark(self, ways, cell, sign):
        """The mark is told and, unless it can't be, made: its kind; how many of the ways are left then."""
        if cell in self.marks:
            return [NOT_AS_IT_IS]
        kind = kind_of(self.left(ways), cell, sign)
        self.told[kind] += 1
        if kind != CANT_BE:
            self.marks[cell] = sign
        return [kind, 1, len(self.left(ways))]

    def rub(self, cell):
        """The cell's mark is rubbed out: how many marks there are."""
        if cell not in self.marks:
            return [NOT_AS_IT_IS]
        # What was told of it stays counted.
        self.marks.pop(cell)
        return [len(self.marks)]

    def next_sure(self, ways, wanting):
        """The first cell of which a mark would be sure; which mark."""
        unmarked = self.unmarked(wanting)
        if not unmarked:
            return [NOT_AS_IT_IS]
        left = self.left(ways)
        for cell in unmarked:
            for sign in (THERE_IS, THERE_IS_NONE):
                if kind_of(left, cell, sign) == SURE:
                    return [cell, 1, sign]
        return [NOT_ENOUGH]

    def done(self, ways, wanting):
        """Whether all cells that want a mark have one and a way is left."""
        # A sheet without marks may leave no way, where no cell wants one.
        return [1 if self.left(ways) and not self.unmarked(wanting) else 0]

    def shown(self):
        """How many marks; each, by cells rising; how many of each kind were told."""
        marks = []
        for cell in sorted(self.marks):
            marks = marks + [cell, self.marks[cell]]
        kinds = self.kinds()
        return [len(self.marks), len(marks)] + marks + [len(kinds)] + kinds

    def kinds(self):
        """How many marks were told that were sure, may have been, couldn't be."""
        return [self.told[SURE], self.told[MAY_BE], self.told[CANT_BE]]

    def points(self):
        """What the marks that were told bring their solver."""
        gained = SURE_GAINS * self.told[SURE] + MAY_BE_GAINS * self.told[MAY_BE]
        return gained - CANT_BE_LOSES * self.told[CANT_BE]


def having(ways, cell, sign):
    """Those of the ways that have the cell as the sign tells."""
    return [way for way in ways if (cell in way) == (sign == THERE_IS)]


def kind_of(left, cell, sign):
    """What the mark would be where such ways are left."""
    so = having(left, cell, sign)
    # Without a way nothing is sure, so this comes first.
    if not so:
        return CANT_BE
    return SURE if len(so) == len(left) else MAY_BE
