"""begins, field, hall (promise 1) and good, thin, fill (promise 2), as calls of the desk."""

import unittest

from asking import ask, begins, behind, field, fill, good, hall, last, mark, thin, with_pillars, with_trees

GREAT = 4294967295

# Tents 1 3, 1 9, 3 5 or 5 9; row 0 and column 0 are the first two numbers by which it's 1 9.
FIELD = with_trees(2, 5, 0, 4) + [fill(0, 1)]
# Lamps 1 or 2 in row 0, 9 or 10 in row 2; it's 2 9.
HALL = with_pillars(3, 4, {0: 0, 3: 1, 4: 9, 5: 9, 6: 9, 7: 9, 8: 1, 11: 0})


class Begins(unittest.TestCase):
    def test_at_the_beginning_there_is_one_solver(self):
        self.assertEqual(ask(mark(1, 0, 0, 2), mark(0, 0, 0, 2)), [[-2], [2, 1, 1]])

    def test_so_many_solvers(self):
        for solvers in (1, 2, 3, 4):
            told = ask(begins(solvers), mark(solvers, 0, 0, 2), mark(solvers - 1, 0, 0, 2))
            self.assertEqual(told, [[0], [-2], [2, 1, 1]])

    def test_all_is_new(self):
        made = FIELD + HALL + [mark(0, 0, 1, 1), mark(0, 1, 1, 2), begins(2)]
        told = behind(made, field(12), hall(11), mark(0, 0, 0, 2), mark(0, 1, 0, 1))
        self.assertEqual(told, [
            [0, 0, 1, 99, 1, 99, 0, 0], [0, 2, 1, 1, 0, 0, 0], [2, 1, 1], [2, 1, 1]])

    def test_marks_of_riddles_that_are_the_same_are_forgotten_too(self):
        self.assertEqual(ask(mark(0, 0, 0, 2), begins(1), mark(0, 0, 0, 2)), [[2, 1, 1], [0], [2, 1, 1]])

    def test_refused_it_leaves_all(self):
        made = [begins(2)] + HALL + [mark(1, 1, 2, 1)]
        for solvers in (0, 5, GREAT):
            told = behind(made, begins(solvers), mark(1, 1, 2, 1), hall(4))
            self.assertEqual(told, [[-1], [-4], [1, 2, 1, 4]])


class FieldAndHall(unittest.TestCase):
    def test_the_riddles_are_apart(self):
        self.assertEqual(ask(field(0, 2, 2), hall(11), hall(0, 3, 3), field(12)), [
            [4], [0, 2, 1, 1, 0, 0, 0], [9], [0, 0, 2, 99, 99, 2, 99, 99, 0, 0]])

    def test_none(self):
        self.assertEqual(ask(field(), hall(), field(8), hall(12), field(*range(60)), hall(*[GREAT] * 60)), [[-100]] * 6)


class Good(unittest.TestCase):
    def test_at_the_beginning_both_are(self):
        self.assertEqual(ask(good(0), good(1)), [[1, 2, 1, 0], [1, 2, 1, 0]])

    def test_no_such_riddle(self):
        self.assertEqual(ask(good(2), good(GREAT)), [[-2], [-2]])

    def test_field(self):
        made = with_trees(2, 2, 0)
        told = behind(made, good(0), field(3, 0, 1), good(0), field(4, 1, 1), good(0), field(3, 1, 1), good(0))
        self.assertEqual(told[::2], [[0, 2, 2, 0], [1, 2, 1, 0], [0, 2, 1, 1], [0, 2, 0, 0]])

    def test_two_numbers_may_both_be_wanted(self):
        made = with_trees(2, 5, 0, 4)
        told = behind(made, field(3, 0, 1), field(4, 0, 0), good(0), field(3, 1, 1), good(0))
        self.assertEqual(told[2::2], [[1, 2, 1, 0], [0, 2, 1, 1]])

    def test_too_many_are_counted_beyond_the_fewest(self):
        self.assertEqual(behind(FIELD, good(0)), [[0, 2, 1, 5]])

    def test_a_number_that_tells_nothing_is_too_many(self):
        self.assertEqual(last(field(3, 0, 0), good(0)), [0, 2, 1, 1])

    def test_hall(self):
        told = behind([hall(0, 3, 3)], good(1), *[
            call for lamps in (9, 0, 1, 2, 4) for call in (hall(1, 4, lamps), good(1))])
        self.assertEqual(told[0::2], [
            [0, 2, 6, 0], [0, 2, 7, 0], [0, 2, 2, 0], [0, 2, 0, 0], [0, 2, 4, 0], [1, 2, 1, 0]])
        self.assertEqual(behind(HALL, good(1)), [[0, 2, 1, 2]])

    def test_it_leaves_all(self):
        made = FIELD + [mark(0, 0, 1, 1)]
        told = behind(made, field(12), good(0), field(12), mark(0, 0, 1, 1))
        self.assertEqual(told[0], told[2])
        self.assertEqual(told[3], [-4])


class Thin(unittest.TestCase):
    def test_field(self):
        told = behind(FIELD, thin(0), field(12), field(6), good(0), field(11))
        self.assertEqual(told, [
            [2, 2, 0, 2], [2, 2, 0, 4, 2, 1, 99, 5, 0, 99, 99, 99, 99, 0, 0], [1, 2, 1, 4], [1, 2, 1, 0],
            [2, 2, 0, 2]])

    def test_hall_keeps_its_pillars(self):
        told = behind(HALL, thin(1), hall(11), hall(4), good(1))
        self.assertEqual(told, [
            [2, 2, 0, 8], [8, 2, 3, 4, 16, 0, 0, 3, 9, 4, 9, 5, 9, 6, 9, 7, 9, 8, 1, 11, 9, 0, 0],
            [1, 2, 1, 4], [1, 2, 1, 0]])

    def test_all_numbers_may_go(self):
        self.assertEqual(ask(field(3, 0, 0), field(4, 0, 0), thin(0), field(12)), [
            [0], [0], [0, 0], [0, 0, 1, 99, 1, 99, 0, 0]])
        self.assertEqual(last(thin(1)), [0, 0])

    def test_of_several_the_one_with_the_first_number(self):
        self.assertEqual(last(*with_trees(2, 2, 0), fill(0, 0), thin(0)), [1, 1, 0])
        self.assertEqual(last(*with_trees(2, 2, 0), fill(0, 1), thin(0)), [1, 1, 0])
        self.assertEqual(last(*with_pillars(1, 4, {3: 1, 0: 0}), thin(1)), [1, 1, 0])

    def test_refusals_leave_all(self):
        made = with_trees(2, 5, 0, 4) + [field(3, 0, 1)]
        told = behind(made, field(12), thin(0), thin(2), thin(GREAT), field(12))
        self.assertEqual(told[1:4], [[-6], [-2], [-2]])
        self.assertEqual(told[0], told[4])
        # No way at all.
        self.assertEqual(last(*with_pillars(3, 3, {4: 1}), thin(1)), [-6])
        self.assertEqual(last(*with_trees(1, 1, 0), thin(0)), [-6])
        self.assertEqual(last(*with_pillars(3, 3, {4: 2}), thin(1)), [-6])


class Fill(unittest.TestCase):
    def test_field(self):
        made = with_trees(2, 5, 0, 4)
        told = behind(made, *[call for k in range(5) for call in (fill(0, k), field(12))])
        self.assertEqual(told[0::2], [[1, 2, 1, 3], [1, 2, 1, 9], [1, 2, 3, 5], [1, 2, 5, 9], [-6]])
        self.assertEqual(told[1::2], [
            [2, 2, 0, 4, 2, 2, 0, 5, 0, 1, 0, 1, 0, 0, 0],
            [2, 2, 0, 4, 2, 1, 1, 5, 0, 1, 0, 0, 1, 0, 0],
            [2, 2, 0, 4, 2, 1, 1, 5, 1, 0, 0, 1, 0, 0, 0],
            [2, 2, 0, 4, 2, 0, 2, 5, 1, 0, 0, 0, 1, 0, 0],
            [2, 2, 0, 4, 2, 0, 2, 5, 1, 0, 0, 0, 1, 0, 0]])

    def test_settings_are_counted_whatever_is_told(self):
        made = with_trees(2, 2, 0) + [field(3, 0, 6)]
        self.assertEqual(behind(made, field(6), fill(0, 1), field(6)), [[0, 2, 0, 2], [1, 1, 2], [1, 2, 1, 2]])

    def test_more_than_one_way_may_have_the_same_numbers(self):
        # Four settings have two lamps beside the pillar, two have none.
        made = with_pillars(3, 3, {4: 9})
        told = behind(made, *[call for k in range(8) for call in (fill(1, k), hall(11))])
        self.assertEqual(told[0::2], [
            [4, 3, 0, 5, 7], [2, 2, 0, 8], [1, 4, 1, 3, 5, 7], [4, 3, 1, 3, 8], [4, 3, 1, 5, 6], [4, 3, 2, 3, 7],
            [2, 2, 2, 6], [-6]])
        self.assertEqual([state[6] for state in told[1::2]], [2, 0, 4, 2, 2, 2, 0, 0])

    def test_each_pillar_is_told(self):
        # Lamps 0 2, 0 5, 2 3 or 3 5; 0 and 2 are beside the pillar 1, 3 and 5 beside 4.
        made = with_pillars(2, 3, {1: 9, 4: 3})
        told = behind(made, hall(4), fill(1, 0), hall(11), fill(1, 3), hall(11), fill(1, 4))
        self.assertEqual(told, [
            [0, 2, 0, 4], [1, 2, 0, 2], [2, 2, 2, 3, 4, 1, 2, 4, 0, 0, 0],
            [1, 2, 3, 5], [2, 2, 2, 3, 4, 1, 0, 4, 2, 0, 0], [-6]])

    def test_without_trees_or_pillars(self):
        self.assertEqual(ask(fill(0, 0), field(12), fill(0, 1), fill(1, 0), hall(11), fill(1, 1)), [
            [1, 0], [0, 0, 1, 0, 1, 0, 0, 0], [-6], [1, 1, 0], [0, 2, 1, 1, 0, 0, 0], [-6]])

    def test_no_setting(self):
        self.assertEqual(last(*with_trees(1, 1, 0), fill(0, 0)), [-6])

    def test_no_lamp(self):
        self.assertEqual(ask(hall(1, 0, 3), fill(1, 0), hall(11)), [[1], [1, 0], [1, 2, 1, 1, 2, 0, 0, 0, 0]])

    def test_refusals_leave_all(self):
        made = with_trees(2, 5, 0, 4) + [field(3, 0, 2)]
        told = behind(made, field(12), fill(0, 4), fill(0, GREAT), fill(2, 0), fill(GREAT, GREAT), field(12))
        self.assertEqual(told[1:5], [[-6], [-6], [-2], [-2]])
        self.assertEqual(told[0], told[5])


if __name__ == "__main__":
    unittest.main()
