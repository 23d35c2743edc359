"""What the field and the hall have in common: cells, numbers, ways, and the fewest numbers."""

BAD_VALUE = -1
NO_SUCH = -2
NOT_AS_IT_IS = -4
FULL = -5
NOT_ENOUGH = -6
NO_CALL = -100

BEGINS = 0

STEPS = ((-1, 0), (0, -1), (0, 1), (1, 0))


class Riddle:
    """Rows and columns of cells, some of them blocked (by trees or pillars, in the order they came).

    What's told of numbers is kept by the number. A field or a hall adds own_deed(), all_numbers(),
    counted() and settings().
    """

    def __init__(self, longest, wants):
        self.longest = longest
        self.wants = wants
        self.rows = 1
        self.columns = 1
        self.blocked = []
        self.numbers = {}

    def makeup(self):
        """All that makes it this riddle and no other one, as a copy that stays as it is."""
        return (self.rows, self.columns, list(self.blocked), dict(self.numbers))

    def deed(self, told):
        """What a call of the riddle answers, its lists behind how many numbers they have."""
        if not told or self.wants.get(told[0]) != len(told) - 1:
            return [NO_CALL]
        if told[0] == BEGINS:
            return self.begins(told[1], told[2])
        return self.own_deed(told)

    def begins(self, rows, columns):
        """All is new, with so many rows and columns."""
        if not (1 <= rows <= self.longest and 1 <= columns <= self.longest):
            return [BAD_VALUE]
        self.rows = rows
        self.columns = columns
        self.blocked = []
        self.numbers = {}
        return [self.size()]

    def unblock(self, cell):
        """The cell has no tree or pillar any more."""
        if cell >= self.size():
            return [NO_SUCH]
        if cell not in self.blocked:
            return [NOT_AS_IT_IS]
        self.blocked.remove(cell)
        return [len(self.blocked)]

    def tell(self, number, value):
        """The number is told to be the value; None: it isn't told."""
        if value is None:
            self.numbers.pop(number, None)
        else:
            self.numbers[number] = value

    def size(self):
        """How many cells there are."""
        return self.rows * self.columns

    def wanting(self):
        """The cells that want a mark."""
        return [cell for cell in range(self.size()) if cell not in self.blocked]

    def beside(self, cell):
        """The cells that have a side in common with the cell."""
        near = []
        for down, across in STEPS:
            row = cell // self.columns + down
            column = cell % self.columns + across
            if 0 <= row < self.rows and 0 <= column < self.columns:
                near.append(row * self.columns + column)
        return near

    def misfits(self, setting):
        """The numbers that are told otherwise than the setting has them."""
        return [number for number in self.numbers if self.counted(number, setting) != self.numbers[number]]

    def ways(self):
        """The settings that have all numbers as they're told, in order."""
        return [setting for setting in self.settings() if not self.misfits(setting)]

    def fewest_told(self):
        """The fewest told numbers that are enough for one way, rising; None if all told aren't."""
        clashes = [self.misfits(setting) for setting in self.settings()]
        if clashes.count([]) != 1:
            return None
        clashes.remove([])
        told = sorted(self.numbers)
        choices = [[]]
        while True:
            # Among choices of one size, lesser numbers come first, as the document prefers them.
            for choice in choices:
                if meets_all(choice, clashes):
                    return choice
            choices = one_longer(choices, told)

    def many(self):
        """How many ways, as the answer and in the list; behind them how many settings."""
        settings = self.settings()
        ways = [setting for setting in settings if not self.misfits(setting)]
        return [len(ways), 2, len(ways), len(settings)]

    def fewest(self):
        """How many numbers are enough; which."""
        choice = self.fewest_told()
        if choice is None:
            return [NOT_ENOUGH]
        return [len(choice), len(choice)] + choice

    def good(self):
        """Whether it's good; how many ways it has and how many numbers too many."""
        choice = self.fewest_told()
        if choice is None:
            return [0, 2, len(self.ways()), 0]
        spare = len(self.numbers) - len(choice)
        return [1 if spare == 0 else 0, 2, 1, spare]

    def thin(self):
        """Only the fewest numbers that are enough stay told: how many; which."""
        choice = self.fewest_told()
        if choice is None:
            return [NOT_ENOUGH]
        for number in list(self.numbers):
            if number not in choice:
                self.tell(number, None)
        return [len(choice), len(choice)] + choice

    def fill(self, ahead):
        """All numbers are told as in the setting with so many ahead of it: how many ways; the setting."""
        settings = self.settings()
        if ahead >= len(settings):
            return [NOT_ENOUGH]
        setting = settings[ahead]
        for number in self.all_numbers():
            self.tell(number, self.counted(number, setting))
        return [len(self.ways()), len(setting)] + setting


def meets_all(choice, clashes):
    """Whether each of the clashes has a number of the choice."""
    for clash in clashes:
        if not any([number in choice for number in clash]):
            return False
    return True


def one_longer(choices, told):
    """Each choice with each told number behind its last one, in order."""
    longer = []
    for choice in choices:
        for number in told:
            if not choice or number > choice[-1]:
                longer.append(choice + [number])
    return longer
