"""The hall's own calls (promise 1)."""

import unittest

from asking import ask, behind, hall, last, with_pillars

GREAT = 4294967295


class HallBegins(unittest.TestCase):
    def test_at_the_beginning_it_is_one_free_cell(self):
        self.assertEqual(ask(hall(11), hall(4), hall(8)), [[0, 2, 1, 1, 0, 0, 0], [1, 2, 1, 1], [0, 0]])

    def test_begins_answers_how_many_cells(self):
        self.assertEqual(ask(hall(0, 1, 1), hall(0, 4, 4), hall(0, 2, 3)), [[1], [16], [6]])

    def test_begins_makes_all_new(self):
        made = with_pillars(2, 2, {0: 1, 3: 9}) + [hall(0, 2, 3)]
        self.assertEqual(last(*made, hall(11)), [0, 2, 2, 3, 0, 0, 0])
        self.assertEqual(last(*made, hall(1, 0, 9), hall(11)), [1, 2, 2, 3, 2, 0, 9, 0, 0])

    def test_begins_refuses_other_sizes_and_leaves_all(self):
        made = with_pillars(2, 2, {3: 1})
        for rows, columns in ((0, 1), (1, 0), (5, 1), (1, 5), (GREAT, GREAT)):
            told = behind(made, hall(0, rows, columns), hall(11))
            self.assertEqual(told, [[-1], [1, 2, 2, 2, 2, 3, 1, 0, 0]])


class Pillars(unittest.TestCase):
    def test_pillar_answers_how_many_and_state_tells_them_rising(self):
        told = ask(hall(0, 2, 3), hall(1, 5, 0), hall(1, 0, 9), hall(1, 2, 4), hall(11))
        self.assertEqual(told, [[6], [1], [2], [3], [3, 2, 2, 3, 6, 0, 9, 2, 4, 5, 0, 0, 0]])

    def test_another_number_instead(self):
        told = behind([hall(0, 2, 2)], hall(1, 3, 1), hall(1, 3, 2), hall(11), hall(1, 3, 9), hall(11), hall(1, 3, 0),
                      hall(11))
        self.assertEqual(told, [
            [1], [1], [1, 2, 2, 2, 2, 3, 2, 0, 0], [1], [1, 2, 2, 2, 2, 3, 9, 0, 0],
            [1], [1, 2, 2, 2, 2, 3, 0, 0, 0]])

    def test_pillar_refusals(self):
        made = with_pillars(2, 2, {3: 1})
        told = behind(made, hall(1, 4, 0), hall(1, GREAT, 9), hall(1, 0, 5), hall(1, 3, 8), hall(1, 3, 10),
                      hall(1, 0, GREAT), hall(1, 4, 5), hall(11))
        self.assertEqual(told, [[-2], [-2], [-1], [-1], [-1], [-1], [-2], [1, 2, 2, 2, 2, 3, 1, 0, 0]])

    def test_gone(self):
        made = with_pillars(2, 2, {3: 1, 0: 9})
        told = behind(made, hall(2, 3), hall(11), hall(2, 3), hall(2, 4), hall(2, GREAT), hall(2, 0), hall(11))
        self.assertEqual(told, [
            [1], [1, 2, 2, 2, 2, 0, 9, 0, 0], [-4], [-2], [-2], [0], [0, 2, 2, 2, 0, 0, 0]])

    def test_a_pillar_that_is_gone_tells_no_number(self):
        made = with_pillars(2, 2, {3: 4}) + [hall(2, 3)]
        told = behind(made, hall(4), hall(1, 3, 9), hall(11))
        self.assertEqual(told, [[2, 2, 2, 2], [1], [1, 2, 2, 2, 2, 3, 9, 0, 0]])

    def test_all_cells_may_have_pillars(self):
        made = with_pillars(4, 4, {cell: 9 for cell in range(16)})
        self.assertEqual(last(*made), [16])


class Many(unittest.TestCase):
    def test_a_pillar_alone_has_one_setting_without_lamps(self):
        made = [hall(1, 0, 9)]
        told = behind(made, hall(4), hall(1, 0, 0), hall(4), hall(1, 0, 1), hall(4))
        self.assertEqual(told, [[1, 2, 1, 1], [1], [1, 2, 1, 1], [1], [0, 2, 0, 1]])

    def test_without_pillars(self):
        # A lamp in each row and column of a square; one lamp alone lights a single row.
        told = ask(hall(0, 2, 2), hall(4), hall(0, 4, 4), hall(4), hall(0, 1, 4), hall(4), hall(0, 4, 1), hall(4))
        self.assertEqual(told[1::2], [[2, 2, 2, 2], [24, 2, 24, 24], [4, 2, 4, 4], [4, 2, 4, 4]])

    def test_pillars_end_the_light(self):
        # 0 . 2 with a pillar between: both cells want a lamp.
        told = ask(hall(0, 1, 3), hall(4), hall(1, 1, 2), hall(4), hall(1, 1, 1), hall(4))
        self.assertEqual(told[1::2], [[3, 2, 3, 3], [1, 2, 1, 1], [0, 2, 0, 1]])

    def test_a_ring_round_a_pillar(self):
        # 0 5 7, 0 8, 1 3 5 7, 1 3 8, 1 5 6, 2 3 7, 2 6.
        made = [hall(0, 3, 3)]
        told = behind(made, *[call for lamps in (9, 0, 1, 2, 3, 4) for call in (hall(1, 4, lamps), hall(4))])
        self.assertEqual(told[1::2], [
            [7, 2, 7, 7], [2, 2, 2, 7], [0, 2, 0, 7], [4, 2, 4, 7], [0, 2, 0, 7], [1, 2, 1, 7]])

    def test_a_corner_and_a_row_end_are_not_beside_a_pillar(self):
        # Free are 1 and 2, 3 too: 1 2 or 3; beside 0 are 1 and 2. The row end 2 of 2 by 3 isn't beside 3.
        told = ask(hall(0, 2, 2), hall(1, 0, 2), hall(4), hall(1, 0, 0), hall(4), hall(1, 0, 1), hall(4))
        self.assertEqual(told[2::2], [[1, 2, 1, 2], [1, 2, 1, 2], [0, 2, 0, 2]])
        pillars = {0: 9, 1: 9, 3: 0, 4: 9, 5: 9}
        self.assertEqual(last(*with_pillars(2, 3, pillars), hall(4)), [1, 2, 1, 1])


class Fewest(unittest.TestCase):
    def test_none_is_enough_if_there_is_one_setting(self):
        self.assertEqual(last(*with_pillars(1, 3, {1: 2}), hall(8)), [0, 0])

    def test_not_one_way(self):
        self.assertEqual(last(hall(0, 2, 2), hall(8)), [-6])
        self.assertEqual(last(*with_pillars(3, 3, {4: 2}), hall(8)), [-6])
        self.assertEqual(last(*with_pillars(3, 3, {4: 1}), hall(8)), [-6])

    def test_one_is_enough(self):
        self.assertEqual(last(*with_pillars(3, 3, {4: 4}), hall(8)), [1, 1, 4])
        # Lamps on 0 or on 1; lamps on 0 or on both 1 and 2.
        self.assertEqual(last(*with_pillars(1, 3, {2: 1}), hall(8)), [1, 1, 2])
        self.assertEqual(last(*with_pillars(2, 2, {3: 0}), hall(8)), [1, 1, 3])

    def test_of_several_the_one_with_the_first_pillar(self):
        # Cells 1 and 2 see each other, 0 and 3 tell which of them has the lamp.
        self.assertEqual(last(*with_pillars(1, 4, {3: 1, 0: 0}), hall(8)), [1, 1, 0])
        self.assertEqual(last(*with_pillars(1, 4, {3: 1, 0: 9}), hall(8)), [1, 1, 3])

    def test_two_are_wanted(self):
        # Rows 0 and 2 are as above, row 1 is full of pillars, whose numbers aren't told.
        pillars = {0: 0, 3: 1, 4: 9, 5: 9, 6: 9, 7: 9, 8: 1, 11: 0}
        made = with_pillars(3, 4, pillars)
        self.assertEqual(behind(made, hall(4), hall(8)), [[1, 2, 1, 4], [2, 2, 0, 8]])
        self.assertEqual(behind(made, hall(1, 0, 9), hall(8)), [[8], [2, 2, 3, 8]])
        # The pillar 5 is beside 1 and 9: both lamps there, which is told by it alone.
        told = behind(made, hall(1, 0, 1), hall(1, 3, 0), hall(1, 5, 2), hall(4), hall(8))
        self.assertEqual(told[3:], [[1, 2, 1, 4], [1, 1, 5]])

    def test_it_leaves_the_numbers(self):
        made = with_pillars(1, 4, {0: 0, 3: 1}) + [hall(8)]
        self.assertEqual(last(*made, hall(11)), [2, 2, 1, 4, 4, 0, 0, 3, 1, 0, 0])


class NoCall(unittest.TestCase):
    def test_no_such_call(self):
        for deed in ((), (3,), (5,), (6,), (7,), (9,), (10,), (12,), (99, 1), (GREAT,)):
            self.assertEqual(last(hall(*deed)), [-100])

    def test_not_as_many_numbers_as_it_wants(self):
        for call, wanted in ((0, 2), (1, 2), (2, 1), (4, 0), (8, 0), (11, 0)):
            for many in (0, 1, 2, 3, 59):
                told = behind(with_pillars(2, 2, {3: 1}), hall(call, *([1] * many)), hall(11))
                if many == wanted:
                    self.assertNotEqual(told[0], [-100])
                else:
                    self.assertEqual(told, [[-100], [1, 2, 2, 2, 2, 3, 1, 0, 0]])


if __name__ == "__main__":
    unittest.main()
