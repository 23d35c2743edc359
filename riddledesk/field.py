"""The field: tents beside trees, no two of which touch."""

from riddledesk.riddle import BAD_VALUE, FULL, NO_SUCH, NOT_AS_IT_IS, Riddle

LONGEST = 5
MOST_TREES = 6
MOST_TENTS = 6
NOT_TOLD = 99

TREE = 1
FELL = 2
ROW = 3
COL = 4
MANY = 6
FEWEST = 11

# How many numbers each call wants behind its own.
WANTED = {0: 2, 1: 1, 2: 1, 3: 2, 4: 2, 6: 0, 11: 0, 12: 0}


class Field(Riddle):
    """A field; its numbers are those of the rows and behind them those of the columns."""

    def __init__(self):
        Riddle.__init__(self, LONGEST, dict(WANTED))

    def own_deed(self, told):
        """What a call answers that is the field's own."""
        call = told[0]
        if call == TREE:
            return self.tree(told[1])
        if call == FELL:
            return self.unblock(told[1])
        if call == ROW:
            return self.line(0, self.rows, told[1], told[2])
        if call == COL:
            return self.line(self.rows, self.columns, told[1], told[2])
        if call == MANY:
            return self.many()
        if call == FEWEST:
            return self.fewest()
        return self.state()

    def tree(self, cell):
        """The cell has a tree."""
        if cell >= self.size():
            return [NO_SUCH]
        if cell in self.blocked:
            return [NOT_AS_IT_IS]
        if len(self.blocked) == MOST_TREES:
            return [FULL]
        self.blocked.append(cell)
        return [len(self.blocked)]

    def line(self, first, lines, line, tents):
        """The row or column has so many tents; first is the number of the first of such lines."""
        if line >= lines:
            return [NO_SUCH]
        if tents > MOST_TENTS and tents != NOT_TOLD:
            return [BAD_VALUE]
        self.tell(first + line, None if tents == NOT_TOLD else tents)
        return [0]

    def state(self):
        """The trees, as planted; the numbers of rows and of columns; no marks."""
        trees = len(self.blocked)
        shown = [self.numbers.get(number, NOT_TOLD) for number in self.all_numbers()]
        rows = [self.rows] + shown[:self.rows]
        columns = [self.columns] + shown[self.rows:]
        return [trees, trees] + self.blocked + rows + columns + [0, 0]

    def all_numbers(self):
        """The numbers that may be told."""
        return list(range(self.rows + self.columns))

    def counted(self, number, setting):
        """How many tents the setting has in the row or column of the number."""
        if number < self.rows:
            return len([tent for tent in setting if tent // self.columns == number])
        return len([tent for tent in setting if tent % self.columns == number - self.rows])

    def settings(self):
        """All settings, in order."""
        found = [()]
        for tree in self.blocked:
            found = self.with_tent_for(tree, found)
        # All have as many tents, so the order of settings is that of their rising lists.
        return [list(tents) for tents in sorted(found)]

    def with_tent_for(self, tree, found):
        """What's found with one tent more, given to the tree; each once, to whichever trees they're given."""
        grown = {}
        for tents in found:
            for cell in self.beside(tree):
                if cell not in self.blocked and not self.touches_one(cell, tents):
                    grown[tuple(sorted(tents + (cell,)))] = True
        return list(grown)

    def touches_one(self, cell, tents):
        """Whether the cell is one of the tents' or touches one."""
        for tent in tents:
            down = abs(cell // self.columns - tent // self.columns)
            across = abs(cell % self.columns - tent % self.columns)
            if down <= 1 and across <= 1:
                return True
        return False
