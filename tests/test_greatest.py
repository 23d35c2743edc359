"""The greatest riddles, worked out by hand where the document's words allow it."""

import unittest

import brute
from asking import (ask, begins, behind, done, field, fill, good, hall, last, mark, next_sure, sheet, standing, state,
                    thin, with_pillars, with_trees)

# Rows 1 and 3 have three trees each. If row 4 has no tent, the lower trees want 10 12 14, then the upper 0 2 4;
# no row or column ahead of row 4 tells as much alone.
TREES = (5, 7, 9, 15, 17, 19)
FIELD = with_trees(5, 5, *TREES) + [fill(0, 0)]
FULL_HALL = with_pillars(4, 4, {cell: 0 for cell in range(16)})


class GreatestField(unittest.TestCase):
    def test_all_numbers_told(self):
        told = behind(FIELD[:-1], fill(0, 0), field(12), good(0), field(11), thin(0), good(0), field(12))
        self.assertEqual(told, [
            [1, 6, 0, 2, 4, 10, 12, 14],
            [6, 6, 5, 7, 9, 15, 17, 19, 5, 3, 0, 3, 0, 0, 5, 2, 0, 2, 0, 2, 0, 0],
            [0, 2, 1, 9], [1, 1, 4], [1, 1, 4], [1, 2, 1, 0],
            [6, 6, 5, 7, 9, 15, 17, 19, 5, 99, 99, 99, 99, 0, 5, 99, 99, 99, 99, 99, 0, 0]])

    def test_every_setting_may_be_filled_in(self):
        settings = brute.field_settings(5, 5, list(TREES))
        told = behind(FIELD, *[fill(0, k) for k in range(len(settings) + 1)])
        self.assertEqual([answer[2:] for answer in told[:-1]], settings)
        self.assertEqual(told[-1], [-6])

    def test_marks_all_over(self):
        cells = [cell for cell in range(25) if cell not in TREES]
        tents = (0, 2, 4, 10, 12, 14)
        told = behind(FIELD, *[mark(0, 0, cell, 1 if cell in tents else 2) for cell in cells])
        self.assertEqual(told, [[2, 1, 1]] * 19)

    def test_sixty_calls(self):
        for call, answer in ((good(0), [0, 2, 1, 9]), (field(11), [1, 1, 4]), (mark(0, 0, 0, 2), [0, 1, 1]),
                             (next_sure(0, 0), [0, 1, 1]), (done(0, 0), [0])):
            self.assertEqual(behind(FIELD, *[call] * 52), [answer] * 52)


class GreatestHall(unittest.TestCase):
    def test_no_pillars(self):
        told = behind([hall(0, 4, 4)], good(1), fill(1, 0), fill(1, 23), fill(1, 24), thin(1), mark(0, 1, 0, 1),
                      mark(0, 1, 5, 1), mark(0, 1, 11, 1), mark(0, 1, 14, 1), mark(0, 1, 10, 1))
        self.assertEqual(told, [
            [0, 2, 24, 0], [24, 4, 0, 5, 10, 15], [24, 4, 3, 6, 9, 12], [-6], [-6], [1, 1, 6], [1, 1, 2], [1, 1, 1],
            [2, 1, 1], [0, 1, 1]])

    def test_all_pillars_numbered(self):
        told = behind(FULL_HALL, hall(4), good(1), hall(8), mark(0, 1, 0, 2), fill(1, 0), thin(1), hall(11))
        self.assertEqual(told[:6], [[1, 2, 1, 1], [0, 2, 1, 16], [0, 0], [-1], [1, 0], [0, 0]])
        self.assertEqual(told[6], [16, 2, 4, 4, 32] + [n for cell in range(16) for n in (cell, 9)] + [0, 0])

    def test_all_pillars_without_numbers(self):
        made = with_pillars(4, 4, {cell: 9 for cell in range(16)})
        self.assertEqual(behind(made, good(1), hall(8), fill(1, 1)), [[1, 2, 1, 0], [0, 0], [-6]])

    def test_a_chess_board_of_pillars(self):
        # The eight free cells see no other one, so each has its lamp.
        free = [0, 2, 5, 7, 8, 10, 13, 15]
        pillars = {cell: 0 for cell in range(16) if cell not in free}
        made = with_pillars(4, 4, pillars)
        told = behind(made, hall(4), fill(1, 0), good(1), thin(1), *[mark(0, 1, cell, 1) for cell in free])
        self.assertEqual(told, [[0, 2, 0, 1], [1, 8] + free, [0, 2, 1, 8], [0, 0]] + [[2, 1, 1]] * 8)

    def test_many_pillars(self):
        # Rows 0 and 2 have a pair of free cells each: 1 9, 1 10, 2 9, 2 10.
        pillars = {cell: 9 for cell in range(16) if cell not in (1, 2, 9, 10)}
        made = with_pillars(4, 4, pillars)
        told = behind(made, hall(4), fill(1, 3), good(1), thin(1))
        # 5 is beside 1 and 9; that it has none tells both lamps.
        self.assertEqual(told, [[4, 2, 4, 4], [1, 2, 2, 10], [0, 2, 1, 11], [1, 1, 5]])
        told = behind(made, fill(1, 1), thin(1))
        # 1 10: no number tells both; 0 tells that it's 1, and then 5, having one, that it isn't 9.
        self.assertEqual(told, [[1, 2, 1, 10], [2, 2, 0, 5]])

    def test_sixty_calls(self):
        few = with_pillars(4, 4, {5: 9, 10: 9}) + [fill(1, 0)]
        for made in (few, FULL_HALL):
            for call in (good(1), hall(8), hall(4), fill(1, 0), thin(1), mark(0, 1, 1, 2), next_sure(0, 1), done(0, 1)):
                told = behind(made, *[call] * (60 - len(made)))
                self.assertEqual(told[1:], [told[-1]] * (60 - len(made) - 1))

    def test_filled_and_thinned_sixty_times(self):
        made = [hall(0, 4, 4)] + [hall(1, cell, 9) for cell in (1, 6, 8, 15)]
        settings = brute.hall_settings(4, 4, [1, 6, 8, 15])
        calls = []
        for k in range(27):
            calls = calls + [fill(1, k % len(settings)), thin(1)]
        told = behind(made, *calls)
        for k in range(27):
            self.assertEqual(told[2 * k][2:], settings[k % len(settings)])


class WholeLine(unittest.TestCase):
    def test_both_greatest_with_four_solvers(self):
        line = [begins(4)] + FIELD + with_pillars(4, 4, {0: 9, 15: 9})
        told = behind(line, *[mark(solver, riddle, 3, 2) for solver in range(4) for riddle in (0, 1)])
        self.assertEqual(told[0::2], [[2, 1, 1]] * 4)
        self.assertEqual(told[1::2], [told[1]] * 4)
        self.assertEqual(last(*line, good(0)), [0, 2, 1, 9])

    def test_four_solvers_with_ten_marks_each(self):
        made = [begins(4)] + FIELD
        cells = [0, 1, 2, 3, 4, 6, 8, 10, 11, 12]
        marks = [mark(solver, 0, cell, 1) for solver in (3, 2, 1, 0) for cell in cells]
        told = behind(made, *marks, standing(), state(), sheet(2, 0), next_sure(0, 0), done(0, 0))
        # The way is 0 2 4 10 12 14, so 1, 3, 6, 8 and 11 can't have tents: five are sure and five can't be.
        self.assertEqual(told[40:], [
            [4, 8, 0, -5, 1, -5, 2, -5, 3, -5],
            [4, 24] + [n for solver in (3, 2, 1, 0) for n in (solver, 0, 5, 5, 0, 5)],
            [5, 10, 0, 1, 2, 1, 4, 1, 10, 1, 12, 1, 3, 5, 0, 5], [1, 1, 2], [0]])

    def test_the_greatest_sizes_and_no_greater(self):
        self.assertEqual(ask(field(0, 5, 5), field(0, 6, 5), hall(0, 4, 4), hall(0, 4, 5)), [[25], [-1], [16], [-1]])
        self.assertEqual(last(*with_trees(5, 5, *TREES), field(1, 0)), [-5])
        self.assertEqual(last(*FIELD, thin(0), thin(0)), [1, 1, 4])


if __name__ == "__main__":
    unittest.main()
