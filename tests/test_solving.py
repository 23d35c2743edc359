"""rub (promise 3) and next, sheet, done (promise 4)."""

import unittest

from asking import (ask, begins, behind, done, field, fill, hall, last, mark, next_sure, rub, sheet, state, thin,
                    with_pillars, with_trees)

GREAT = 4294967295

# Ways: 0 5 7, 1 3 8, 1 5 6, 2 3 7.
TWO = with_pillars(3, 3, {4: 2})
# Ways: 0 5 7, 0 8, 1 3 5 7, 1 3 8, 1 5 6, 2 3 7, 2 6.
RING = with_pillars(3, 3, {4: 9})
# Its one way: 1 3 5 7.
FOUR = with_pillars(3, 3, {4: 4})
NO_WAY = with_pillars(3, 3, {4: 1})
# Ways: 1, 3, 5 or 7.
MIDDLE = with_trees(3, 3, 4)
# No cell wants a mark; with a way and, as 1 lamp beside a pillar can't be, without.
ALL_PILLARS = with_pillars(1, 2, {0: 0, 1: 9})
ALL_PILLARS_NO_WAY = with_pillars(1, 2, {0: 1, 1: 9})
ALL_TREES = with_trees(1, 2, 0, 1)

NO_SHEET = [0, 0, 3, 0, 0, 0]


class Rub(unittest.TestCase):
    def test_it_answers_how_many_marks_are_left(self):
        made = TWO + [mark(0, 1, 0, 2), mark(0, 1, 5, 2), mark(0, 1, 6, 2)]
        told = behind(made, rub(0, 1, 5), sheet(0, 1), rub(0, 1, 6), rub(0, 1, 0), sheet(0, 1))
        self.assertEqual(told, [[2], [2, 4, 0, 2, 6, 2, 3, 1, 2, 0], [1], [0], [0, 0, 3, 1, 2, 0]])

    def test_the_ways_come_back(self):
        told = behind(TWO, mark(0, 1, 0, 1), rub(0, 1, 0), mark(0, 1, 1, 1), mark(0, 1, 3, 2), rub(0, 1, 1),
                      mark(0, 1, 0, 1))
        # Without 3 are 0 5 7 and 1 5 6.
        self.assertEqual(told, [[1, 1, 1], [0], [1, 1, 2], [1, 1, 1], [1], [1, 1, 1]])

    def test_told_anew_it_is_judged_anew_and_counts_again(self):
        made = FOUR + [mark(0, 1, 1, 1), rub(0, 1, 1)]
        told = behind(made, mark(0, 1, 1, 1), sheet(0, 1), rub(0, 1, 1), mark(0, 1, 1, 2), sheet(0, 1))
        self.assertEqual(told, [[2, 1, 1], [1, 2, 1, 1, 3, 2, 0, 0], [0], [0, 1, 1], [0, 0, 3, 2, 0, 1]])
        # What was sure behind another mark may be once that one is rubbed out.
        told = behind(TWO, mark(0, 1, 0, 1), mark(0, 1, 5, 1), rub(0, 1, 0), rub(0, 1, 5), mark(0, 1, 5, 1),
                      sheet(0, 1))
        self.assertEqual(told[1:], [[2, 1, 1], [1], [0], [1, 1, 2], [1, 2, 5, 1, 3, 1, 2, 0]])

    def test_no_such_solver_or_riddle(self):
        made = [begins(2)] + TWO + [mark(0, 1, 0, 1)]
        told = behind(made, rub(2, 1, 0), rub(0, 2, 0), rub(GREAT, 1, 0), rub(0, GREAT, 0), rub(2, 2, GREAT),
                      rub(0, 1, 0))
        self.assertEqual(told, [[-2]] * 5 + [[0]])

    def test_a_cell_without_a_mark(self):
        made = [begins(2)] + MIDDLE + TWO + [mark(0, 1, 0, 1), mark(0, 1, 8, 1)]
        told = behind(made, rub(0, 1, 1), rub(0, 1, 8), rub(0, 1, 4), rub(0, 1, 9), rub(0, 1, GREAT), rub(1, 1, 0),
                      rub(0, 0, 0), sheet(0, 1), rub(0, 1, 0), rub(0, 1, 0))
        self.assertEqual(told, [[-4]] * 7 + [[1, 2, 0, 1, 3, 0, 1, 1], [0], [-4]])

    def test_refused_it_begins_no_sheet(self):
        self.assertEqual(ask(rub(0, 0, 0), rub(0, 1, 0), state()), [[-4], [-4], [1, 0]])


class Next(unittest.TestCase):
    def test_one_cell(self):
        self.assertEqual(ask(next_sure(0, 0), next_sure(0, 1)), [[0, 1, 2], [0, 1, 1]])

    def test_the_first_cell_without_a_mark(self):
        told = behind(MIDDLE, next_sure(0, 0), mark(0, 0, 2, 2), next_sure(0, 0), mark(0, 0, 0, 2), next_sure(0, 0),
                      mark(0, 0, 6, 2), next_sure(0, 0), mark(0, 0, 8, 2), next_sure(0, 0))
        self.assertEqual(told[0::2], [[0, 1, 2], [0, 1, 2], [6, 1, 2], [8, 1, 2], [-6]])

    def test_a_mark_tells_more(self):
        told = behind(TWO, next_sure(0, 1), mark(0, 1, 0, 2), next_sure(0, 1), mark(0, 1, 5, 2), next_sure(0, 1),
                      mark(0, 1, 3, 1), next_sure(0, 1), mark(0, 1, 8, 1), next_sure(0, 1))
        # Without 0 are 1 3 8, 1 5 6, 2 3 7; without 5 of these 1 3 8 and 2 3 7.
        self.assertEqual(told[0::2], [[-6], [-6], [3, 1, 1], [6, 1, 2], [1, 1, 1]])

    def test_a_mark_that_is_rubbed_out_is_told_next_again(self):
        made = FOUR + [mark(0, 1, 0, 2), mark(0, 1, 1, 1), mark(0, 1, 2, 2)]
        told = behind(made, next_sure(0, 1), rub(0, 1, 1), next_sure(0, 1))
        self.assertEqual(told, [[3, 1, 1], [2], [1, 1, 1]])

    def test_it_makes_no_mark_and_begins_no_sheet(self):
        told = behind(FOUR, next_sure(0, 1), next_sure(0, 1), sheet(0, 1), state())
        self.assertEqual(told, [[0, 1, 2], [0, 1, 2], NO_SHEET, [1, 0]])

    def test_each_solver_s_own_sheet(self):
        made = [begins(3)] + FOUR + MIDDLE + [mark(1, 1, 0, 2), mark(2, 0, 1, 1)]
        told = behind(made, next_sure(0, 1), next_sure(1, 1), next_sure(2, 1), next_sure(1, 0), next_sure(2, 0))
        self.assertEqual(told, [[0, 1, 2], [1, 1, 1], [0, 1, 2], [0, 1, 2], [0, 1, 2]])

    def test_no_such_solver_or_riddle(self):
        told = behind(NO_WAY, next_sure(1, 1), next_sure(0, 2), next_sure(GREAT, 0), next_sure(0, GREAT))
        self.assertEqual(told, [[-2]] * 4)

    def test_all_cells_have_marks(self):
        told = ask(mark(0, 0, 0, 2), next_sure(0, 0), next_sure(0, 1), mark(0, 1, 0, 1), next_sure(0, 1),
                   next_sure(1, 1), rub(0, 1, 0), next_sure(0, 1))
        self.assertEqual(told, [[2, 1, 1], [-4], [0, 1, 1], [2, 1, 1], [-4], [-2], [0], [0, 1, 1]])

    def test_no_cell_wants_a_mark(self):
        self.assertEqual(last(*ALL_PILLARS, next_sure(0, 1)), [-4])
        self.assertEqual(last(*ALL_PILLARS_NO_WAY, next_sure(0, 1)), [-4])
        self.assertEqual(last(*ALL_TREES, next_sure(0, 0)), [-4])
        self.assertEqual(last(*ALL_TREES, next_sure(1, 0)), [-2])

    def test_none_is_sure(self):
        self.assertEqual(last(*RING, next_sure(0, 1)), [-6])
        self.assertEqual(last(*with_trees(1, 3, 1), next_sure(0, 0)), [-6])

    def test_no_way_is_left(self):
        told = behind(NO_WAY, next_sure(0, 1), mark(0, 1, 0, 2), next_sure(0, 1))
        self.assertEqual(told, [[-6], [0, 1, 0], [-6]])
        self.assertEqual(last(field(3, 0, 1), next_sure(0, 0)), [-6])


class ShownSheet(unittest.TestCase):
    def test_marks_by_cells_rising_and_how_many_of_each_kind(self):
        made = TWO + [mark(0, 1, 7, 2), mark(0, 1, 0, 1), mark(0, 1, 2, 2), mark(0, 1, 1, 1), mark(0, 1, 8, 1),
                      mark(0, 1, 0, 2)]
        # Without 7 are 1 3 8 and 1 5 6, so 0 can't be, 2 can't be, 1 is sure and 8 may be.
        self.assertEqual(behind(made, sheet(0, 1)), [
            [5, 10, 0, 2, 1, 1, 2, 2, 7, 2, 8, 1, 3, 3, 2, 1]])

    def test_that_may_have_been_stays_so(self):
        # 1 may be; behind it nothing else is left, so it would be sure now.
        made = with_trees(2, 2, 0) + [mark(0, 0, 1, 1), mark(0, 0, 2, 2), mark(0, 0, 3, 2)]
        self.assertEqual(last(*made, sheet(0, 0)), [3, 6, 1, 1, 2, 2, 3, 2, 3, 2, 1, 0])

    def test_marks_that_cannot_be_are_counted_alone(self):
        told = behind(NO_WAY, mark(0, 1, 0, 1), mark(0, 1, 0, 1), mark(0, 1, 0, 2), sheet(0, 1))
        self.assertEqual(told[-1], [0, 0, 3, 0, 0, 3])

    def test_refused_marks_are_not_counted(self):
        made = FOUR + [mark(0, 1, 1, 1), mark(0, 1, 1, 1), mark(0, 1, 4, 1), mark(0, 1, 0, 3), mark(1, 1, 0, 2)]
        self.assertEqual(last(*made, sheet(0, 1)), [1, 2, 1, 1, 3, 1, 0, 0])

    def test_no_sheet_yet(self):
        made = [begins(2)] + FOUR + [mark(0, 1, 0, 2)]
        self.assertEqual(behind(made, sheet(1, 1), sheet(0, 0), sheet(1, 0), state()), [
            NO_SHEET, NO_SHEET, NO_SHEET, [2, 6, 0, 1, 1, 1, 0, 0]])

    def test_no_cell_wants_a_mark(self):
        self.assertEqual(last(*ALL_PILLARS, sheet(0, 1)), NO_SHEET)
        self.assertEqual(last(*ALL_TREES, sheet(0, 0)), NO_SHEET)

    def test_no_such_solver_or_riddle(self):
        self.assertEqual(ask(sheet(1, 0), sheet(0, 2), sheet(GREAT, GREAT), begins(4), sheet(3, 1), sheet(4, 1)), [
            [-2], [-2], [-2], [0], NO_SHEET, [-2]])


class Done(unittest.TestCase):
    def test_once_all_cells_have_marks(self):
        told = behind(MIDDLE, *[call for cell in (0, 2, 6, 8, 1, 3, 5) for call in (mark(0, 0, cell, 2), done(0, 0))])
        self.assertEqual(told[1::2], [[0]] * 7)
        made = MIDDLE + [mark(0, 0, cell, 2) for cell in (0, 2, 6, 8, 1, 3, 5)]
        told = behind(made, mark(0, 0, 7, 2), done(0, 0), mark(0, 0, 7, 1), done(0, 0), rub(0, 0, 0), done(0, 0),
                      mark(0, 0, 0, 2), done(0, 0))
        self.assertEqual(told, [[0, 1, 1], [0], [2, 1, 1], [1], [7], [0], [2, 1, 1], [1]])

    def test_one_cell(self):
        told = ask(done(0, 0), done(0, 1), mark(0, 0, 0, 2), done(0, 0), mark(0, 1, 0, 1), done(0, 1))
        self.assertEqual(told, [[0], [0], [2, 1, 1], [1], [2, 1, 1], [1]])

    def test_all_lamps_are_not_enough(self):
        made = FOUR + [mark(0, 1, cell, 1) for cell in (1, 3, 5, 7)]
        told = behind(made, done(0, 1), *[mark(0, 1, cell, 2) for cell in (0, 2, 6, 8)], done(0, 1))
        self.assertEqual([told[0], told[-1]], [[0], [1]])

    def test_any_of_several_ways_will_do(self):
        for way in ((0, 5, 7), (0, 8), (1, 3, 5, 7), (1, 3, 8), (1, 5, 6), (2, 3, 7), (2, 6)):
            marks = [mark(0, 1, cell, 1 if cell in way else 2) for cell in (0, 1, 2, 3, 5, 6, 7, 8)]
            self.assertEqual(behind(RING, *marks, done(0, 1))[-1], [1])

    def test_each_solver_s_own_sheet(self):
        told = ask(begins(2), mark(1, 0, 0, 2), done(0, 0), done(1, 0), done(1, 1))
        self.assertEqual(told[2:], [[0], [1], [0]])

    def test_no_cell_wants_a_mark(self):
        told = behind([begins(2)] + ALL_PILLARS, done(0, 1), done(1, 1), state())
        self.assertEqual(told, [[1], [1], [2, 0]])
        self.assertEqual(last(*ALL_PILLARS_NO_WAY, done(0, 1)), [0])
        self.assertEqual(last(*ALL_TREES, done(0, 0)), [0])

    def test_no_way(self):
        self.assertEqual(behind(NO_WAY, mark(0, 1, 0, 1), done(0, 1)), [[0, 1, 0], [0]])

    def test_no_such_solver_or_riddle(self):
        self.assertEqual(behind(ALL_PILLARS, done(1, 1), done(0, 2), done(GREAT, 1), done(0, GREAT)), [[-2]] * 4)


class Follow(unittest.TestCase):
    """Who asks what's next and marks it."""

    def follow(self, made, riddle, cells):
        """Made a riddle that's one way, it's followed to its end."""
        calls = list(made)
        for turn in range(cells):
            cell, one, sign = last(*calls, next_sure(0, riddle))
            self.assertEqual(one, 1)
            calls.append(mark(0, riddle, cell, sign))
            # A sure mark loses nothing.
            self.assertEqual(last(*calls), [2, 1, 1])
        told = behind(calls, done(0, riddle), next_sure(0, riddle), sheet(0, riddle))
        self.assertEqual(told[:2], [[1], [-4]])
        self.assertEqual(told[2][0], cells)
        self.assertEqual(told[2][-3:], [cells, 0, 0])

    def test_a_riddle_of_one_way_gets_done(self):
        self.follow(FOUR, 1, 8)
        self.follow(with_trees(2, 5, 0, 4) + [fill(0, 1)], 0, 8)
        self.follow(with_pillars(3, 4, {0: 9, 3: 9, 5: 9, 10: 9}) + [fill(1, 0)], 1, 8)
        self.follow(with_trees(5, 5, 5, 7, 9, 15, 17, 19) + [fill(0, 0)], 0, 19)

    def test_thinned_too(self):
        made = with_trees(5, 5, 5, 7, 9, 15, 17, 19) + [fill(0, 0), thin(0)]
        self.follow(made, 0, 19)
        self.assertEqual(last(*made, field(6))[0], 1)
        self.follow(FOUR + [thin(1)], 1, 8)

    def test_thinned_it_has_the_same_way(self):
        tents = [0, 2, 4, 10, 12, 14]
        made = with_trees(5, 5, 5, 7, 9, 15, 17, 19) + [fill(0, 0), thin(0)]
        marks = [mark(0, 0, cell, 1) for cell in tents]
        self.assertEqual(behind(made, *marks), [[2, 1, 1]] * 6)

    def test_where_several_ways_are_left_it_ends_without_loss(self):
        made = [hall(0, 3, 3), hall(1, 4, 0)]
        # Ways: 0 8 and 2 6; so 1 3 5 7 are sure to have none.
        told = behind(made, mark(0, 1, 1, 2), mark(0, 1, 3, 2), mark(0, 1, 5, 2), next_sure(0, 1), mark(0, 1, 7, 2),
                      next_sure(0, 1), done(0, 1), mark(0, 1, 6, 1), next_sure(0, 1))
        self.assertEqual(told, [[2, 1, 2], [2, 1, 2], [2, 1, 2], [7, 1, 2], [2, 1, 2], [-6], [0], [1, 1, 1],
                                [0, 1, 2]])


if __name__ == "__main__":
    unittest.main()
