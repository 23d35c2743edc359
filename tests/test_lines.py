"""Whole lines of calls: some worked out by hand, many picked by a fixed rule and held against tests/model.py."""

import random
import unittest

from asking import (ask, begins, done, field, fill, good, hall, mark, next_sure, rub, sheet, split, standing, state,
                    thin)
from model import Model
from riddledesk.desk import answers

GREAT = 4294967295


class Picker:
    """Picks a line: riddles are made, then solved by solvers who often do what's sure, now and then made other ones."""

    def __init__(self, seed, longest):
        self.random = random.Random(seed)
        self.longest = longest
        self.model = Model()
        self.line = []
        self.told = []

    def ask(self, call):
        self.line.append(call)
        self.told.append(self.model.answer(call))
        return self.told[-1]

    def wild(self, number, beyond):
        """Mostly the number; now and then one at or beyond the bound."""
        return self.random.choice((beyond, beyond + 1, GREAT)) if self.random.randrange(25) == 0 else number

    def riddle(self):
        return self.wild(self.random.randrange(2), 2)

    def solver(self):
        return self.wild(self.random.randrange(self.model.solvers), self.model.solvers)

    def cell(self, riddle):
        made = self.model.riddles[riddle % 2]
        return self.wild(self.random.randrange(made["rows"] * made["columns"]), made["rows"] * made["columns"])

    def make_riddle(self, riddle):
        deed = hall if riddle else field
        most = min(self.longest, 4 if riddle else 5)
        rows, columns = self.random.randint(1, most), self.random.randint(1, most)
        self.ask(deed(0, self.wild(rows, 6), self.wild(columns, 6)))
        for turn in range(self.random.randrange(1, 5)):
            cell = self.cell(riddle)
            self.ask(hall(1, cell, self.random.choice((0, 1, 2, 9, 9))) if riddle else field(1, cell))
        if self.random.randrange(3):
            settings = self.model.settings(riddle)
            self.ask(fill(riddle, self.random.randrange(len(settings) + 1)))

    def change(self):
        pick = self.random.randrange(6)
        if pick == 0:
            self.ask(fill(self.riddle(), self.random.randrange(4)))
        elif pick == 1:
            self.ask(thin(self.riddle()))
        elif pick == 2:
            self.ask(self.random.choice((field(2, self.cell(0)), hall(2, self.cell(1)), field(1, self.cell(0)))))
        elif pick == 3:
            line = self.random.randrange(4)
            self.ask(field(self.random.choice((3, 4)), line, self.random.choice((0, 1, 1, 2, 7, 99))))
        elif pick == 4:
            self.ask(hall(1, self.cell(1), self.random.choice((0, 1, 2, 5, 9))))
        else:
            deeds = (field(), hall(7), field(6, 1), hall(0, 5, 1), field(6), hall(4), field(11), hall(8))
            self.ask(self.random.choice(deeds))

    def solve(self):
        solver, riddle = self.solver(), self.riddle()
        pick = self.random.randrange(14)
        if pick < 5:
            self.ask(mark(solver, riddle, self.cell(riddle), self.wild(self.random.choice((1, 2, 2)), 3)))
        elif pick < 9:
            told = self.ask(next_sure(solver, riddle))
            if told[0] >= 0:
                self.ask(mark(solver, riddle, told[0], told[2]))
        elif pick < 11:
            marked = list(self.model.sheets.get((solver, riddle), {"marks": ()})["marks"])
            self.ask(rub(solver, riddle, self.random.choice(marked or [self.cell(riddle)])))
        else:
            self.ask(self.random.choice((sheet(solver, riddle), done(solver, riddle), good(riddle))))

    def pick_line(self, calls):
        self.ask(begins(self.wild(self.random.randrange(1, 5), 5)))
        while len(self.line) < calls:
            pick = self.random.randrange(40)
            if pick == 0:
                self.ask(begins(self.random.randrange(6)))
            elif pick < 3 or (len(self.line) < 3 and self.random.randrange(4)):
                self.make_riddle(self.random.randrange(2))
            elif pick < 5:
                self.change()
            elif pick < 8:
                self.ask(self.random.choice((standing(), state(), field(12), hall(11))))
            else:
                self.solve()
        # A riddle that's made may go beyond 58; the last two calls tell all that's kept of sheets.
        self.line, self.told = self.line[:58], self.told[:58]
        self.model = Model()
        for call in self.line:
            self.model.answer(call)
        self.ask(standing())
        self.ask(state())


class PickedLines(unittest.TestCase):
    def hold(self, seeds, longest):
        met = {}
        for seed in seeds:
            picker = Picker(seed, longest)
            picker.pick_line(picker.random.choice((3, 20, 58, 58, 58)))
            self.assertLessEqual(len(picker.line), 60)
            told = split(answers([number for call in picker.line for number in call]))
            for call, expected, answered in zip(picker.line, picker.told, told):
                self.assertEqual(answered, expected, (seed, call, picker.line))
                met.setdefault(call[0], set()).add(min(answered[0], 0))
            self.assertEqual(len(told), len(picker.line))
        return met

    def test_small_riddles(self):
        met = self.hold(range(300), 3)
        # The lines are of use only as long as they meet each call and each refusal of it.
        self.assertEqual(met, {
            0: {0, -1}, 1: {0, -1, -2, -4, -6, -100}, 2: {0, -1, -2, -4, -6, -100}, 3: {0, -2}, 4: {0, -2, -6},
            5: {0, -2, -6}, 6: {0, -1, -2, -4}, 7: {0, -2, -4}, 8: {0, -2, -4, -6}, 9: {0, -2}, 10: {0, -2}, 11: {0},
            12: {0}})

    def test_one_cell_and_little_more(self):
        self.hold(range(1000, 1200), 2)

    def test_greater_riddles(self):
        self.hold(range(2000, 2060), 5)


class LineByHand(unittest.TestCase):
    def test_sixty_calls_with_begins_in_between(self):
        # A hall of one row: lamps 1 or 2, by the pillar 3 it's 2; a field with its tree in the corner: 1 or 2.
        made = [hall(0, 1, 4), hall(1, 0, 9), hall(1, 3, 1), field(0, 2, 2), field(1, 0)]
        first = [begins(2)] + made + [
            mark(0, 1, 2, 1), mark(1, 0, 3, 2), next_sure(0, 1), next_sure(1, 0), mark(1, 0, 1, 1), next_sure(1, 0),
            mark(0, 1, 1, 1), mark(0, 1, 1, 2), done(0, 1), standing(), state(), good(1), good(0), rub(1, 0, 3),
            sheet(1, 0), hall(1, 0, 0), state(), good(1), thin(1), standing(), next_sure(1, 1), begins(1), state(),
            hall(11)]
        told = [
            [0], [4], [1], [2], [4], [1],
            [2, 1, 1], [2, 1, 2], [1, 1, 2], [-6], [1, 1, 1], [2, 1, 2],
            [0, 1, 1], [2, 1, 1], [1], [2, 4, 1, 3, 0, 1], [2, 12, 0, 1, 2, 2, 0, 1, 1, 0, 2, 1, 1, 0],
            [1, 2, 1, 0], [0, 2, 2, 0], [1],
            [1, 2, 1, 1, 3, 1, 1, 0], [2], [2, 6, 1, 0, 1, 1, 1, 0], [0, 2, 1, 1], [1, 1, 0], [2, 4, 1, 3, 0, 0],
            [1, 1, 2], [0], [1, 0], [0, 2, 1, 1, 0, 0, 0]]
        self.assertEqual(len(first), 30)
        self.assertEqual(ask(*first, *first), told + told)


if __name__ == "__main__":
    unittest.main()
