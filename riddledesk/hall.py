"""The hall: lamps that light every free cell, and none of them another one."""

from riddledesk.riddle import BAD_VALUE, NO_SUCH, STEPS, Riddle

LONGEST = 4
MOST_LAMPS = 4
NO_NUMBER = 9

PILLAR = 1
GONE = 2
MANY = 4
FEWEST = 8

# How many numbers each call wants behind its own.
WANTED = {0: 2, 1: 2, 2: 1, 4: 0, 8: 0, 11: 0}


class Hall(Riddle):
    """A hall; its numbers are those of the pillars, each called by the pillar's cell."""

    def __init__(self):
        Riddle.__init__(self, LONGEST, dict(WANTED))

    def own_deed(self, told):
        """What a call answers that is the hall's own."""
        call = told[0]
        if call == PILLAR:
            return self.pillar(told[1], told[2])
        if call == GONE:
            return self.gone(told[1])
        if call == MANY:
            return self.many()
        if call == FEWEST:
            return self.fewest()
        return self.state()

    def pillar(self, cell, lamps):
        """There's a pillar, with that number instead of another one."""
        if cell >= self.size():
            return [NO_SUCH]
        if lamps > MOST_LAMPS and lamps != NO_NUMBER:
            return [BAD_VALUE]
        if cell not in self.blocked:
            self.blocked.append(cell)
        self.tell(cell, None if lamps == NO_NUMBER else lamps)
        return [len(self.blocked)]

    def gone(self, cell):
        """There's no pillar any more, nor its number."""
        answered = self.unblock(cell)
        if answered[0] >= 0:
            self.tell(cell, None)
        return answered

    def state(self):
        """How many rows and columns; the pillars, rising, with their numbers; no marks."""
        shown = []
        for cell in self.all_numbers():
            shown = shown + [cell, self.numbers.get(cell, NO_NUMBER)]
        return [len(self.blocked), 2, self.rows, self.columns, len(shown)] + shown + [0, 0]

    def all_numbers(self):
        """The numbers that may be told."""
        return sorted(self.blocked)

    def counted(self, number, setting):
        """How many lamps the setting has beside the pillar."""
        return len([cell for cell in self.beside(number) if cell in setting])

    def settings(self):
        """All settings, in order."""
        free = self.wanting()
        lit = {}
        for cell in free:
            lit[cell] = self.lit_from(cell)
        found = [[]]
        for cell in free:
            found = with_or_without(cell, lit[cell], found)
        return [lamps for lamps in found if all_lit(free, lit, lamps)]

    def lit_from(self, cell):
        """The cells that a lamp on the cell lights, but for that cell."""
        lit = []
        for down, across in STEPS:
            row = cell // self.columns + down
            column = cell % self.columns + across
            while self.has_free(row, column):
                lit.append(row * self.columns + column)
                row += down
                column += across
        return lit

    def has_free(self, row, column):
        """Whether there's such a cell and it's free."""
        if not (0 <= row < self.rows and 0 <= column < self.columns):
            return False
        return row * self.columns + column not in self.blocked


def with_or_without(cell, lit, found):
    """What's found, each with a lamp on the cell too if none is lit by it, then without."""
    grown = []
    for lamps in found:
        # With the lamp comes first, so that settings come out in their order.
        if not any([lamp in lit for lamp in lamps]):
            grown.append(lamps + [cell])
        grown.append(lamps)
    return grown


def all_lit(free, lit, lamps):
    """Whether each free cell has a lamp or is lit by one."""
    for cell in free:
        if cell not in lamps and not any([lamp in lit[cell] for lamp in lamps]):
            return False
    return True
