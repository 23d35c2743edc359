"""mark (promise 3), and what becomes of sheets when riddles are made other ones."""

import unittest

from asking import ask, begins, behind, field, fill, good, hall, last, mark, thin, with_pillars, with_trees
from riddledesk.desk import Desk

GREAT = 4294967295

# Settings: 0 5 7, 0 8, 1 3 5 7, 1 3 8, 1 5 6, 2 3 7, 2 6; beside the pillar 4 are 2, 0, 4, 2, 2, 2, 0 of them.
RING = with_pillars(3, 3, {4: 9})
TWO = with_pillars(3, 3, {4: 2})
NO_WAY = with_pillars(3, 3, {4: 1})
# Tents 1, 3, 5 or 7.
MIDDLE = with_trees(3, 3, 4)


class Kinds(unittest.TestCase):
    def test_may_be_then_sure_then_cant_be(self):
        told = behind(TWO, mark(0, 1, 0, 1), mark(0, 1, 5, 1), mark(0, 1, 1, 1), mark(0, 1, 1, 2))
        self.assertEqual(told, [[1, 1, 1], [2, 1, 1], [0, 1, 1], [2, 1, 1]])

    def test_that_there_is_none_may_be_sure_may_be_and_cant_be(self):
        told = behind(TWO, mark(0, 1, 0, 2), mark(0, 1, 5, 2), mark(0, 1, 3, 2), mark(0, 1, 6, 2))
        # Left are 1 3 8, 1 5 6, 2 3 7; without 5: 1 3 8, 2 3 7.
        self.assertEqual(told, [[1, 1, 3], [1, 1, 2], [0, 1, 2], [2, 1, 2]])

    def test_sure_with_several_ways(self):
        made = with_pillars(3, 3, {4: 0})
        self.assertEqual(behind(made, mark(0, 1, 1, 2), mark(0, 1, 3, 1), mark(0, 1, 0, 1)), [
            [2, 1, 2], [0, 1, 2], [1, 1, 1]])

    def test_without_a_way_nothing_is_sure_and_no_mark_is_made(self):
        told = behind(NO_WAY, mark(0, 1, 0, 1), mark(0, 1, 0, 2), mark(0, 1, 0, 1))
        self.assertEqual(told, [[0, 1, 0], [0, 1, 0], [0, 1, 0]])

    def test_field(self):
        told = behind(MIDDLE, mark(0, 0, 0, 2), mark(0, 0, 0, 2), mark(0, 0, 8, 1), mark(0, 0, 3, 2), mark(0, 0, 7, 1),
                      mark(0, 0, 1, 1), mark(0, 0, 1, 2))
        self.assertEqual(told, [[2, 1, 4], [-4], [0, 1, 4], [1, 1, 3], [1, 1, 1], [0, 1, 1], [2, 1, 1]])

    def test_numbers_that_are_told_count(self):
        told = behind(MIDDLE, field(3, 1, 1), mark(0, 0, 1, 2), mark(0, 0, 3, 1), mark(0, 0, 5, 1))
        self.assertEqual(told, [[0], [2, 1, 2], [1, 1, 1], [0, 1, 1]])

    def test_one_cell(self):
        self.assertEqual(ask(mark(0, 0, 0, 1), mark(0, 0, 0, 2), mark(0, 1, 0, 2), mark(0, 1, 0, 1)), [
            [0, 1, 1], [2, 1, 1], [0, 1, 1], [2, 1, 1]])

    def test_a_mark_that_cant_be_is_not_made(self):
        told = behind(RING, mark(0, 1, 0, 1), mark(0, 1, 8, 1), mark(0, 1, 5, 1), mark(0, 1, 5, 2))
        self.assertEqual(told, [[1, 1, 2], [1, 1, 1], [0, 1, 1], [2, 1, 1]])

    def test_all_settings_are_ways_without_numbers(self):
        self.assertEqual(behind(RING, mark(0, 1, 4, 1), mark(0, 1, 7, 2), mark(0, 1, 6, 2), mark(0, 1, 1, 2)), [
            [-1], [1, 1, 4], [1, 1, 2], [1, 1, 1]])


class Refusals(unittest.TestCase):
    def test_no_such_solver_or_riddle(self):
        told = behind(RING, mark(1, 1, 0, 1), mark(0, 2, 0, 1), mark(GREAT, 0, 0, 1), mark(0, GREAT, 0, 1))
        self.assertEqual(told, [[-2]] * 4)

    def test_a_cell_that_wants_no_mark(self):
        made = MIDDLE + RING
        told = behind(made, mark(0, 0, 4, 1), mark(0, 1, 4, 2), mark(0, 0, 9, 1), mark(0, 1, 9, 2), mark(0, 0, GREAT, 1))
        self.assertEqual(told, [[-1]] * 5)

    def test_neither_1_nor_2(self):
        for sign in (0, 3, GREAT):
            self.assertEqual(last(*RING, mark(0, 1, 0, sign)), [-1])

    def test_a_cell_with_a_mark(self):
        told = behind(TWO, mark(0, 1, 0, 1), mark(0, 1, 0, 1), mark(0, 1, 0, 2), mark(0, 1, 5, 1))
        self.assertEqual(told, [[1, 1, 1], [-4], [-4], [2, 1, 1]])

    def test_the_first_that_is_due(self):
        made = TWO + [mark(0, 1, 0, 1)]
        told = behind(made, mark(1, 1, 4, 3), mark(0, 2, 99, 0), mark(0, 1, 0, 3), mark(1, 1, 0, 1), mark(0, 1, 4, 0))
        self.assertEqual(told, [[-2], [-2], [-1], [-2], [-1]])

    def test_they_leave_all(self):
        made = TWO + [mark(0, 1, 0, 2)]
        told = behind(made, mark(0, 1, 0, 1), mark(0, 1, 1, 0), mark(0, 1, 4, 1), mark(0, 5, 1, 1), mark(0, 1, 1, 1))
        self.assertEqual(told, [[-4], [-1], [-1], [-2], [1, 1, 2]])


class Sheets(unittest.TestCase):
    def test_each_solver_has_their_own(self):
        made = [begins(4)] + TWO
        told = behind(made, mark(0, 1, 0, 1), mark(3, 1, 0, 2), mark(1, 1, 1, 1), mark(0, 1, 5, 1), mark(3, 1, 5, 2),
                      mark(1, 1, 5, 1), mark(3, 1, 5, 1), mark(2, 1, 0, 1))
        self.assertEqual(told, [
            [1, 1, 1], [1, 1, 3], [1, 1, 2], [2, 1, 1], [1, 1, 2], [1, 1, 1], [-4], [1, 1, 1]])

    def test_each_riddle_has_its_own(self):
        made = MIDDLE + RING
        told = behind(made, mark(0, 0, 0, 2), mark(0, 1, 0, 2), mark(0, 0, 0, 2), mark(0, 1, 0, 2))
        self.assertEqual(told, [[2, 1, 4], [1, 1, 5], [-4], [-4]])

    def test_begin_with_the_first_mark_that_is_told_and_count_each_kind(self):
        desk = Desk()
        made = [(0, [3]), (2, [0, 3, 3]), (2, [1, 4, 2])]
        refused = [(6, [3, 1, 0, 1]), (6, [2, 1, 4, 1]), (6, [2, 1, 0, 3])]
        for call, told in made + refused:
            desk.answer(call, told)
        self.assertEqual(desk.sheets, [])
        # Solver 2: can't be, sure, can't be; solver 0: may be, sure, sure, can't be, and one that's refused.
        for told in ([2, 0, 0, 1], [0, 1, 0, 1], [0, 1, 5, 1], [2, 0, 0, 2], [2, 1, 0, 2], [0, 1, 1, 2], [0, 1, 2, 1],
                     [0, 1, 0, 1]):
            desk.answer(6, told)
        kept = [(sheet.solver, sheet.riddle, sheet.marks, sheet.told) for sheet in desk.sheets]
        self.assertEqual(kept, [
            (2, 0, {0: 2}, [1, 0, 1]), (0, 1, {0: 1, 5: 1, 1: 2}, [1, 1, 2]), (2, 1, {0: 2}, [0, 1, 0])])


class OtherRiddles(unittest.TestCase):
    FIELD_SHEET = with_trees(2, 2, 0) + [field(3, 0, 1), field(4, 1, 1), mark(0, 0, 1, 1)]
    HALL_SHEET = with_pillars(1, 4, {0: 0, 3: 1}) + [mark(0, 1, 2, 1)]

    def is_kept(self, made, again, *calls):
        return last(*made, *calls, again) == [-4]

    def test_field_calls_that_make_it_another_one(self):
        for call in (field(0, 2, 2), field(0, 2, 3), field(1, 3), field(2, 0), field(3, 0, 99), field(3, 0, 2),
                     field(3, 1, 0), field(4, 0, 0), field(4, 1, 99)):
            self.assertFalse(self.is_kept(self.FIELD_SHEET, mark(0, 0, 1, 1), call), call)

    def test_field_calls_that_leave_it_as_it_was(self):
        for call in (field(3, 0, 1), field(4, 1, 1), field(3, 1, 99), field(4, 0, 99), field(6), field(11), field(12),
                     field(0, 6, 1), field(1, 0), field(1, 4), field(2, 1), field(3, 0, 7), field(3, 2, 1), field(),
                     field(99), good(0), thin(2), fill(0, 2), begins(5), begins(0)):
            self.assertTrue(self.is_kept(self.FIELD_SHEET, mark(0, 0, 1, 1), call), call)

    def test_hall_calls_that_make_it_another_one(self):
        for call in (hall(0, 1, 4), hall(0, 4, 1), hall(1, 1, 9), hall(1, 0, 9), hall(1, 3, 0), hall(2, 0), hall(2, 3)):
            self.assertFalse(self.is_kept(self.HALL_SHEET, mark(0, 1, 2, 2), call), call)

    def test_hall_calls_that_leave_it_as_it_was(self):
        for call in (hall(1, 0, 0), hall(1, 3, 1), hall(4), hall(8), hall(11), hall(0, 5, 1), hall(1, 4, 0),
                     hall(1, 1, 5), hall(2, 1), hall(2, 4), hall(), hall(99), good(1), thin(3), fill(1, 2), begins(5)):
            self.assertTrue(self.is_kept(self.HALL_SHEET, mark(0, 1, 2, 2), call), call)

    def test_begins_of_a_riddle_that_is_just_so_leaves_it(self):
        self.assertEqual(last(mark(0, 0, 0, 2), field(0, 1, 1), mark(0, 0, 0, 2)), [-4])
        self.assertEqual(last(mark(0, 1, 0, 1), hall(0, 1, 1), mark(0, 1, 0, 1)), [-4])

    def test_the_other_riddle_s_sheets_stay(self):
        made = self.FIELD_SHEET + self.HALL_SHEET
        self.assertTrue(self.is_kept(made, mark(0, 0, 1, 1), hall(0, 2, 2)))
        self.assertTrue(self.is_kept(made, mark(0, 1, 2, 1), field(0, 3, 3)))

    def test_all_solvers_sheets_of_it_are_forgotten(self):
        made = [begins(3)] + RING + [mark(solver, 1, 0, 1) for solver in (2, 0, 1)] + [hall(1, 4, 2)]
        told = behind(made, *[mark(solver, 1, 0, 2) for solver in (0, 1, 2)])
        self.assertEqual(told, [[1, 1, 3]] * 3)

    def test_thin(self):
        # One number is too many; once it's thinned, none is, and nothing changes any more.
        made = self.FIELD_SHEET + [thin(0)]
        self.assertEqual(behind(made, mark(0, 0, 1, 1), thin(0), mark(0, 0, 1, 1)), [[2, 1, 1], [1, 1, 0], [-4]])
        made = self.HALL_SHEET + [thin(1)]
        self.assertEqual(behind(made, mark(0, 1, 2, 1), thin(1), mark(0, 1, 2, 1)), [[2, 1, 1], [1, 1, 0], [-4]])

    def test_fill(self):
        made = self.FIELD_SHEET + [fill(0, 0)]
        told = behind(made, mark(0, 0, 1, 1), fill(0, 0), mark(0, 0, 1, 1), fill(0, 1), mark(0, 0, 1, 1))
        self.assertEqual(told, [[2, 1, 1], [1, 1, 1], [-4], [1, 1, 2], [0, 1, 1]])
        # The hall has all numbers as in its second setting.
        self.assertTrue(self.is_kept(self.HALL_SHEET, mark(0, 1, 2, 1), fill(1, 1)))
        self.assertFalse(self.is_kept(self.HALL_SHEET, mark(0, 1, 2, 1), fill(1, 0)))

    def test_put_back_it_is_without_sheets_all_the_same(self):
        self.assertFalse(self.is_kept(self.FIELD_SHEET, mark(0, 0, 1, 1), field(3, 0, 99), field(3, 0, 1)))


if __name__ == "__main__":
    unittest.main()
