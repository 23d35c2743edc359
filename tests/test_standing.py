"""standing and state, and what they tell when sheets are forgotten."""

import unittest

from asking import (ask, begins, behind, done, field, fill, good, hall, last, mark, next_sure, rub, sheet, standing,
                    state, thin, with_pillars, with_trees)

# Ways of the halls: 1 3 5 7; 0 5 7, 1 3 8, 1 5 6, 2 3 7. Tents of the field: 1, 3, 5 or 7.
FOUR = with_pillars(3, 3, {4: 4})
TWO = with_pillars(3, 3, {4: 2})
MIDDLE = with_trees(3, 3, 4)


class Standing(unittest.TestCase):
    def test_at_the_beginning(self):
        self.assertEqual(ask(standing()), [[1, 2, 0, 0]])
        for solvers in (1, 2, 3, 4):
            told = [number for solver in range(solvers) for number in (solver, 0)]
            self.assertEqual(last(begins(solvers), standing()), [solvers, 2 * solvers] + told)

    def test_two_for_sure_one_for_may_be_three_less_for_cannot_be(self):
        self.assertEqual(last(*FOUR, mark(0, 1, 1, 1), standing()), [1, 2, 0, 2])
        self.assertEqual(last(*TWO, mark(0, 1, 1, 1), standing()), [1, 2, 0, 1])
        self.assertEqual(last(*FOUR, mark(0, 1, 1, 2), standing()), [1, 2, 0, -3])

    def test_more_points_first(self):
        made = [begins(4)] + TWO
        # Solver 3: may be, sure, sure; 1: may be; 0: can't be behind may be; 2: nothing.
        made = made + [mark(3, 1, 0, 1), mark(3, 1, 5, 1), mark(3, 1, 6, 2), mark(1, 1, 0, 2), mark(0, 1, 0, 1),
                       mark(0, 1, 1, 1)]
        self.assertEqual(last(*made, standing()), [4, 8, 3, 5, 1, 1, 2, 0, 0, -2])

    def test_of_as_many_the_lesser_number_first(self):
        made = [begins(4)] + FOUR
        told = behind(made, mark(3, 1, 1, 1), mark(1, 1, 1, 1), standing(), mark(2, 1, 1, 2), mark(0, 1, 1, 2),
                      standing())
        self.assertEqual(told[2], [4, 8, 1, 2, 3, 2, 0, 0, 2, 0])
        self.assertEqual(told[5], [4, 8, 1, 2, 3, 2, 0, -3, 2, -3])

    def test_of_both_riddles_sheets(self):
        made = [begins(2)] + FOUR + MIDDLE
        told = behind(made, mark(1, 1, 1, 1), mark(1, 0, 1, 1), mark(0, 0, 0, 1), mark(0, 1, 0, 1), standing())
        self.assertEqual(told[-1], [2, 4, 1, 3, 0, -6])

    def test_marks_that_are_rubbed_out_count_all_the_same(self):
        told = behind(FOUR, mark(0, 1, 1, 1), rub(0, 1, 1), standing(), mark(0, 1, 1, 1), standing(),
                      mark(0, 1, 0, 1), rub(0, 1, 1), standing())
        self.assertEqual([told[2], told[4], told[7]], [[1, 2, 0, 2], [1, 2, 0, 4], [1, 2, 0, 1]])

    def test_points_equal_to_none(self):
        # Sure, may be, can't be: 2 and 1 less 3.
        made = [begins(2)] + TWO + [mark(1, 1, 0, 1), mark(1, 1, 5, 1), mark(1, 1, 1, 1)]
        self.assertEqual(last(*made, standing()), [2, 4, 0, 0, 1, 0])

    def test_refused_marks_and_other_calls_bring_nothing(self):
        made = FOUR + [mark(0, 1, 1, 1), mark(0, 1, 1, 1), mark(0, 1, 4, 1), mark(0, 1, 0, 0), mark(1, 1, 1, 1),
                       rub(0, 1, 8), next_sure(0, 1), done(0, 1), sheet(0, 1), standing(), state()]
        self.assertEqual(last(*made, standing()), [1, 2, 0, 2])


class State(unittest.TestCase):
    def test_without_sheets(self):
        for solvers in (1, 2, 3, 4):
            self.assertEqual(last(begins(solvers), state()), [solvers, 0])
        self.assertEqual(ask(state()), [[1, 0]])

    def test_in_the_order_in_which_they_began(self):
        made = [begins(3)] + MIDDLE + TWO + [
            mark(2, 1, 0, 1), mark(0, 1, 0, 2), mark(2, 0, 0, 2), mark(0, 0, 1, 1), mark(2, 1, 5, 1), mark(0, 1, 1, 1),
            mark(1, 0, 0, 1)]
        sheets = [[2, 1, 2, 1, 1, 0], [0, 1, 2, 0, 2, 0], [2, 0, 1, 1, 0, 0], [0, 0, 1, 0, 1, 0], [1, 0, 0, 0, 0, 1]]
        self.assertEqual(last(*made, state()), [3, 30] + [number for one in sheets for number in one])

    def test_a_mark_that_cannot_be_begins_a_sheet(self):
        told = behind(FOUR, mark(0, 1, 0, 1), state(), mark(0, 1, 0, 1), state())
        self.assertEqual(told[1::2], [[1, 6, 0, 1, 0, 0, 0, 1], [1, 6, 0, 1, 0, 0, 0, 2]])

    def test_a_refused_mark_does_not(self):
        made = MIDDLE + [mark(0, 0, 4, 1), mark(0, 0, 9, 1), mark(0, 0, 0, 0), mark(1, 0, 0, 2), mark(0, 2, 0, 2)]
        self.assertEqual(last(*made, state()), [1, 0])

    def test_a_sheet_without_marks_any_more_stays_where_it_began(self):
        made = [begins(2)] + FOUR + [mark(1, 1, 0, 2), mark(0, 1, 0, 2), rub(1, 1, 0)]
        told = behind(made, state(), mark(1, 1, 0, 2), state())
        self.assertEqual(told, [
            [2, 12, 1, 1, 0, 1, 0, 0, 0, 1, 1, 1, 0, 0], [2, 1, 1], [2, 12, 1, 1, 1, 2, 0, 0, 0, 1, 1, 1, 0, 0]])

    def test_all_eight_sheets(self):
        places = [(solver, riddle) for solver in (3, 1, 2, 0) for riddle in (1, 0)]
        told = ask(begins(4), *[mark(solver, riddle, 0, 2 - riddle) for solver, riddle in places], state())
        self.assertEqual(told[-1], [4, 48] + [n for place in places for n in place + (1, 1, 0, 0)])


class Forgotten(unittest.TestCase):
    """Solver 1 has a sheet of both riddles, solver 0 one of the field; the field's way is 1."""

    MADE = [begins(2)] + with_trees(2, 2, 0) + [field(3, 0, 1), field(4, 1, 1)] + FOUR + [
        mark(1, 0, 1, 1), mark(1, 1, 0, 1), mark(0, 0, 3, 2), rub(0, 0, 3)]
    KEPT = [[2, 18, 1, 0, 1, 1, 0, 0, 1, 1, 0, 0, 0, 1, 0, 0, 0, 1, 0, 0], [2, 4, 0, 2, 1, -1]]

    def hold(self, call, shown):
        self.assertEqual(behind(self.MADE, call, state(), standing())[1:], shown, call)

    def test_kept_when_the_riddle_is_as_it_was(self):
        for call in (field(0, 6, 6), field(1, 0), field(1, 4), field(2, 1), field(3, 0, 1), field(4, 0, 99),
                     field(4, 1, 7), field(6), field(11), field(12), field(), field(7, 7), hall(0, 5, 5), hall(1, 4, 4),
                     hall(1, 9, 0), hall(1, 0, 5), hall(2, 0), hall(4), hall(8), hall(11), hall(), good(0),
                     good(1), thin(2), fill(0, 2), fill(1, 7), fill(1, 2), begins(0), begins(5), next_sure(0, 0),
                     done(1, 1), sheet(0, 0), rub(0, 0, 3), mark(0, 0, 0, 1)):
            self.hold(call, self.KEPT)

    def test_the_field_is_another_one(self):
        for call in (field(0, 2, 2), field(0, 5, 5), field(1, 3), field(2, 0), field(3, 0, 99), field(3, 1, 0),
                     field(4, 1, 0), fill(0, 0), fill(0, 1), thin(0)):
            self.hold(call, [[2, 6, 1, 1, 0, 0, 0, 1], [2, 4, 0, 0, 1, -3]])

    def test_the_hall_is_another_one(self):
        for call in (hall(0, 3, 3), hall(0, 1, 1), hall(1, 0, 9), hall(1, 4, 9), hall(1, 4, 2), hall(2, 4), fill(1, 0)):
            self.hold(call, [[2, 12, 1, 0, 1, 1, 0, 0, 0, 0, 0, 1, 0, 0], [2, 4, 0, 2, 1, 2]])

    def test_what_is_asked_of_it_then_is_as_without_a_sheet(self):
        told = behind(self.MADE, field(3, 0, 99), sheet(1, 0), done(1, 0), next_sure(1, 0), rub(1, 0, 1), state())
        self.assertEqual(told[1:], [[0, 0, 3, 0, 0, 0], [0], [1, 1, 1], [-4], [2, 6, 1, 1, 0, 0, 0, 1]])

    def test_begun_anew_it_is_the_last(self):
        told = behind(self.MADE, field(3, 0, 99), field(3, 0, 1), mark(1, 0, 1, 2), state())
        self.assertEqual(told[2:], [[0, 1, 1], [2, 12, 1, 1, 0, 0, 0, 1, 1, 0, 0, 0, 0, 1]])

    def test_begins_forgets_all(self):
        for solvers in (1, 2, 4):
            told = behind(self.MADE, begins(solvers), state())
            self.assertEqual(told, [[0], [solvers, 0]])
        # The riddles are as before here, the sheets are forgotten all the same.
        told = ask(mark(0, 0, 0, 2), mark(0, 1, 0, 2), begins(1), state(), standing())
        self.assertEqual(told[3:], [[1, 0], [1, 2, 0, 0]])
        told = behind(self.MADE, begins(2), standing(), sheet(1, 0), done(1, 1), next_sure(1, 1), field(12))
        self.assertEqual(told[1:], [
            [2, 4, 0, 0, 1, 0], [0, 0, 3, 0, 0, 0], [0], [0, 1, 1], [0, 0, 1, 99, 1, 99, 0, 0]])


if __name__ == "__main__":
    unittest.main()
