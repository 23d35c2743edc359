"""answers(calls): what's handed in stays as it was, nothing is kept, and only plain whole numbers come back."""

import unittest

from asking import (begins, done, field, fill, good, hall, mark, next_sure, rub, sheet, standing, state, thin,
                    with_pillars, with_trees)
from riddledesk.desk import answers

LINE = [begins(2)] + with_trees(2, 5, 0, 4) + with_pillars(3, 3, {4: 2}) + [
    fill(0, 1), good(0), mark(1, 0, 1, 1), thin(0), mark(1, 0, 1, 1), mark(0, 1, 0, 1), mark(0, 1, 0, 1), good(1),
    field(), hall(9), field(12), hall(11), mark(2, 0, 0, 1),
    next_sure(0, 1), rub(1, 0, 1), sheet(0, 1), done(0, 1), standing(), state(), done(2, 0)]
FLAT = [number for call in LINE for number in call]
ANSWERED = [
    1, 0, 1, 10, 1, 1, 1, 2, 1, 9, 1, 1,
    4, 1, 2, 1, 9, 4, 0, 2, 1, 5, 3, 2, 1, 1, 4, 2, 2, 0, 2, 3, 2, 1, 1, 3, 1, 1, 1, 1, -4, 4, 0, 2, 4, 0,
    1, -100, 1, -100, 15, 2, 2, 0, 4, 2, 1, 99, 5, 0, 99, 99, 99, 99, 0, 0, 9, 1, 2, 3, 3, 2, 4, 2, 0, 0, 1, -2,
    3, 1, 1, 2, 1, 0, 8, 1, 2, 0, 1, 3, 0, 1, 0, 1, 0, 6, 2, 4, 1, 2, 0, 1,
    14, 2, 12, 1, 0, 0, 1, 0, 0, 0, 1, 1, 0, 1, 0, 1, -2]


class Interface(unittest.TestCase):
    def test_a_line_of_many_calls(self):
        self.assertEqual(answers(list(FLAT)), ANSWERED)

    def test_what_is_handed_in_stays(self):
        given = list(FLAT)
        answers(given)
        self.assertEqual(given, FLAT)

    def test_a_second_time_is_as_the_first(self):
        given = list(FLAT)
        self.assertEqual(answers(given), answers(given))
        answers([1, 3, 0, 5, 5])
        answers([6, 0, 0, 0, 2])
        self.assertEqual(answers([12]), [2, 1, 0])
        self.assertEqual(answers([1, 1, 12]), [8, 0, 0, 1, 99, 1, 99, 0, 0])

    def test_what_is_given_back_is_another_list_each_time(self):
        first = answers(list(FLAT))
        first.append(5)
        self.assertEqual(answers(list(FLAT)), ANSWERED)

    def test_whole_numbers_alone_come_back(self):
        told = answers(list(FLAT))
        self.assertIs(type(told), list)
        self.assertEqual({type(number) for number in told}, {int})

    def test_sixty_calls_of_sixty_numbers(self):
        deed = [4294967295] * 60
        self.assertEqual(answers(([1, 60] + deed) * 60), [1, -100] * 60)


if __name__ == "__main__":
    unittest.main()
