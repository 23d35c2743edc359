"""The field's own calls (promise 1)."""

import unittest

from asking import ask, behind, field, last, with_trees

GREAT = 4294967295


class FieldBegins(unittest.TestCase):
    def test_at_the_beginning_it_is_one_cell_without_a_tree(self):
        self.assertEqual(ask(field(12), field(6), field(11)), [
            [0, 0, 1, 99, 1, 99, 0, 0],
            [1, 2, 1, 1],
            [0, 0]])

    def test_begins_answers_how_many_cells(self):
        self.assertEqual(ask(field(0, 1, 1), field(0, 5, 5), field(0, 2, 3)), [[1], [25], [6]])

    def test_begins_makes_all_new(self):
        made = with_trees(2, 2, 0) + [field(3, 0, 1), field(4, 1, 1), field(0, 2, 3)]
        self.assertEqual(last(*made, field(12)), [0, 0, 2, 99, 99, 3, 99, 99, 99, 0, 0])

    def test_begins_refuses_other_sizes_and_leaves_all(self):
        made = with_trees(2, 2, 3)
        for rows, columns in ((0, 1), (1, 0), (6, 1), (1, 6), (GREAT, GREAT)):
            told = behind(made, field(0, rows, columns), field(12))
            self.assertEqual(told, [[-1], [1, 1, 3, 2, 99, 99, 2, 99, 99, 0, 0]])


class Trees(unittest.TestCase):
    def test_tree_answers_how_many_and_state_tells_them_as_planted(self):
        told = ask(field(0, 2, 3), field(1, 5), field(1, 0), field(1, 2), field(12))
        self.assertEqual(told, [[6], [1], [2], [3], [3, 3, 5, 0, 2, 2, 99, 99, 3, 99, 99, 99, 0, 0]])

    def test_tree_refusals(self):
        made = with_trees(2, 2, 3)
        told = behind(made, field(1, 4), field(1, GREAT), field(1, 3), field(12))
        self.assertEqual(told, [[-2], [-2], [-4], [1, 1, 3, 2, 99, 99, 2, 99, 99, 0, 0]])

    def test_a_seventh_tree_is_refused_behind_the_other_refusals(self):
        made = with_trees(5, 5, 0, 1, 2, 3, 4, 5)
        told = behind(made, field(1, 6), field(1, 25), field(1, 5), field(12))
        self.assertEqual(told[:3], [[-5], [-2], [-4]])
        self.assertEqual(told[3][:8], [6, 6, 0, 1, 2, 3, 4, 5])

    def test_fell(self):
        made = with_trees(2, 2, 3, 0)
        told = behind(made, field(2, 3), field(12), field(2, 3), field(2, 4), field(2, 0), field(2, 0), field(1, 3))
        self.assertEqual(told, [
            [1], [1, 1, 0, 2, 99, 99, 2, 99, 99, 0, 0], [-4], [-2], [0], [-4], [1]])

    def test_a_felled_tree_makes_room_and_one_planted_again_is_the_last(self):
        made = with_trees(2, 4, 0, 1, 2, 3, 4, 5)
        told = behind(made, field(1, 6), field(2, 0), field(1, 0), field(12))
        self.assertEqual(told[:3], [[-5], [5], [6]])
        self.assertEqual(told[3][:8], [6, 6, 1, 2, 3, 4, 5, 0])


class RowsAndColumns(unittest.TestCase):
    def test_numbers_are_told_and_told_no_more(self):
        told = behind([field(0, 2, 3)], field(3, 1, 6), field(4, 2, 0), field(12), field(3, 1, 2), field(4, 2, 99),
                      field(3, 0, 99), field(12))
        self.assertEqual(told, [
            [0], [0], [0, 0, 2, 99, 6, 3, 99, 99, 0, 0, 0],
            [0], [0], [0], [0, 0, 2, 99, 2, 3, 99, 99, 99, 0, 0]])

    def test_refusals(self):
        made = [field(0, 2, 3), field(3, 1, 4)]
        told = behind(made, field(3, 2, 0), field(4, 3, 0), field(3, 1, 7), field(4, 1, 98), field(3, 1, 100),
                      field(4, 1, GREAT), field(3, 2, 7), field(4, 3, 98), field(3, GREAT, 99), field(12))
        self.assertEqual(told, [
            [-2], [-2], [-1], [-1], [-1], [-1], [-2], [-2], [-2], [0, 0, 2, 99, 4, 3, 99, 99, 99, 0, 0]])

    def test_trees_and_numbers_do_not_touch_each_other(self):
        made = with_trees(2, 2, 1) + [field(3, 0, 3), field(2, 1), field(1, 2)]
        self.assertEqual(last(*made, field(12)), [1, 1, 2, 2, 3, 99, 2, 99, 99, 0, 0])


class Many(unittest.TestCase):
    def test_one_tree_in_the_middle(self):
        made = with_trees(3, 3, 4)
        told = behind(made, field(6), field(3, 0, 1), field(6), field(3, 0, 0), field(6), field(3, 0, 2), field(6))
        self.assertEqual(told, [[4, 2, 4, 4], [0], [1, 2, 1, 4], [0], [3, 2, 3, 4], [0], [0, 2, 0, 4]])

    def test_columns_are_held(self):
        made = with_trees(3, 3, 4) + [field(4, 1, 1), field(6)]
        self.assertEqual(last(*made), [2, 2, 2, 4])

    def test_no_tree_is_one_setting_without_tents(self):
        told = behind([field(0, 5, 5)], field(6), field(4, 4, 0), field(6), field(3, 0, 1), field(6))
        self.assertEqual(told, [[1, 2, 1, 1], [0], [1, 2, 1, 1], [0], [0, 2, 0, 1]])

    def test_a_tree_alone_in_one_cell_has_no_setting(self):
        self.assertEqual(last(*with_trees(1, 1, 0), field(6)), [0, 2, 0, 0])

    def test_one_tent_is_not_given_to_two_trees(self):
        self.assertEqual(last(*with_trees(1, 3, 0, 2), field(6)), [0, 2, 0, 0])

    def test_each_tree_is_given_one(self):
        # 0 and 2 are both beside the tree 1 alone, so they can't be given to 1 and 7.
        self.assertEqual(last(*with_trees(3, 3, 1, 7), field(6)), [4, 2, 4, 4])

    def test_to_which_trees_tents_are_given_makes_no_other_setting(self):
        # 0 2, 0 4 and 2 4; 2 is beside both trees.
        self.assertEqual(last(*with_trees(1, 5, 1, 3), field(6)), [3, 2, 3, 3])

    def test_tents_do_not_touch_by_a_side_or_a_corner(self):
        # Trees 0 and 3 of 2 by 2 leave 1 and 2, which touch by a corner; trees 0 and 3 of 1 by 4 leave 1 and 2.
        self.assertEqual(last(*with_trees(2, 2, 0, 3), field(6)), [0, 2, 0, 0])
        self.assertEqual(last(*with_trees(1, 4, 0, 3), field(6)), [0, 2, 0, 0])

    def test_a_row_end_is_not_beside_the_next_row(self):
        # Cells 1 and 2 of 2 by 2 follow each other, but are in two rows.
        self.assertEqual(last(*with_trees(2, 2, 1), field(4, 1, 1), field(6)), [1, 2, 1, 2])
        self.assertEqual(last(*with_trees(2, 2, 1), field(4, 0, 1), field(6)), [1, 2, 1, 2])


class Fewest(unittest.TestCase):
    def test_none_is_enough_if_there_is_one_setting(self):
        self.assertEqual(last(*with_trees(1, 2, 0), field(3, 0, 1), field(11)), [0, 0])

    def test_not_one_way(self):
        made = with_trees(3, 3, 4)
        told = behind(made, field(11), field(3, 1, 1), field(11), field(3, 0, 1), field(11))
        self.assertEqual(told, [[-6], [0], [-6], [0], [-6]])

    def test_only_numbers_that_are_told_are_chosen(self):
        made = with_trees(3, 3, 4)
        told = behind(made, field(3, 1, 1), field(4, 0, 1), field(11))
        self.assertEqual(told[-1], [1, 1, 3])

    def test_of_several_the_one_with_the_first_number(self):
        made = with_trees(2, 2, 0)
        told = behind(made, field(4, 1, 1), field(11), field(4, 0, 0), field(11), field(3, 1, 0), field(11),
                      field(3, 0, 1), field(11))
        self.assertEqual(told[1::2], [[1, 1, 3], [1, 1, 2], [1, 1, 1], [1, 1, 0]])

    def test_two_numbers_are_wanted(self):
        # Settings: 1 3, 1 9, 3 5, 5 9. Both rows tell the same two of them; row 0 and column 0 one.
        made = with_trees(2, 5, 0, 4)
        numbers = [field(3, 0, 1), field(3, 1, 1), field(4, 0, 0), field(4, 1, 1), field(4, 3, 0), field(4, 4, 1)]
        told = behind(made, field(6), *numbers, field(11), field(3, 0, 99), field(11), field(3, 1, 99), field(11))
        self.assertEqual(told[0], [4, 2, 4, 4])
        self.assertEqual(told[7::2], [[2, 2, 0, 2], [2, 2, 1, 2], [2, 2, 2, 5]])

    def test_it_leaves_the_numbers(self):
        made = with_trees(2, 2, 0) + [field(3, 0, 1), field(4, 1, 1), field(11)]
        self.assertEqual(last(*made, field(12)), [1, 1, 0, 2, 1, 99, 2, 99, 1, 0, 0])


class NoCall(unittest.TestCase):
    def test_no_such_call(self):
        for deed in ((), (5,), (7,), (8,), (9,), (10,), (13,), (99, 1), (GREAT,)):
            self.assertEqual(last(field(*deed)), [-100])

    def test_not_as_many_numbers_as_it_wants(self):
        for call, wanted in ((0, 2), (1, 1), (2, 1), (3, 2), (4, 2), (6, 0), (11, 0), (12, 0)):
            for many in (0, 1, 2, 3, 59):
                told = behind(with_trees(2, 2, 0), field(call, *([1] * many)), field(12))
                if many == wanted:
                    self.assertNotEqual(told[0], [-100])
                else:
                    self.assertEqual(told, [[-100], [1, 1, 0, 2, 99, 99, 2, 99, 99, 0, 0]])


if __name__ == "__main__":
    unittest.main()
