"""Many riddles, picked by a fixed rule, held against trying everything."""

import itertools
import random
import unittest

import brute
from asking import behind, field, fill, good, hall, mark, thin, with_pillars, with_trees


def told_field(rows, columns, told):
    return [field(3, n, told[n]) if n < rows else field(4, n - rows, told[n]) for n in told]


class Held(unittest.TestCase):
    """hold() asks all of one riddle whose settings, numbers and told ones are known."""

    def hold(self, riddle, made, settings, told, count):
        ways = brute.ways(settings, told, count)
        choice = brute.fewest(settings, told, count)
        many, few = (field(6), field(11)) if riddle == 0 else (hall(4), hall(8))
        answered = behind(made, many, few, good(riddle), thin(riddle), many, good(riddle))
        self.assertEqual(answered[0], [len(ways), 2, len(ways), len(settings)])
        if choice is None:
            self.assertEqual(answered[1:4], [[-6], [0, 2, len(ways), 0], [-6]])
            self.assertEqual(answered[4:], [answered[0], answered[2]])
        else:
            which = [len(choice), len(choice)] + choice
            spare = len(told) - len(choice)
            self.assertEqual(answered[1:4], [which, [int(spare == 0), 2, 1, spare], which])
            self.assertEqual(answered[4:], [answered[0], [1, 2, 1, 0]])

    def hold_fill(self, riddle, made, settings, numbers, count, k):
        answered = behind(made, fill(riddle, k), good(riddle))
        if k >= len(settings):
            self.assertEqual(answered[0], [-6])
            return
        told = {number: count(number, settings[k]) for number in numbers}
        ways = brute.ways(settings, told, count)
        self.assertEqual(answered[0], [len(ways), len(settings[k])] + settings[k])
        self.assertEqual(answered[1][2], len(ways))

    def hold_marks(self, riddle, made, ways, marks):
        answered = behind(made, *[mark(0, riddle, cell, sign) for cell, sign in marks])
        for (cell, sign), answer in zip(marks, answered):
            so = [way for way in ways if (cell in way) == (sign == 1)]
            kind = 0 if not so else 2 if len(so) == len(ways) else 1
            ways = so if so else ways
            self.assertEqual(answer, [kind, 1, len(ways)])


class Fields(Held):
    def hold_field(self, picker, rows, columns, trees):
        settings = brute.field_settings(rows, columns, trees)
        made = with_trees(rows, columns, *trees)
        numbers = list(range(rows + columns))

        def count(number, setting):
            return brute.field_count(rows, columns, number, setting)

        self.hold_fill(0, made, settings, numbers, count, picker.randrange(len(settings) + 1))
        told = {}
        if settings:
            shown = picker.choice(settings)
            told = {n: count(n, shown) for n in numbers if picker.randrange(4)}
        if picker.randrange(5) == 0:
            told[picker.choice(numbers)] = picker.randrange(3)
        made = made + told_field(rows, columns, told)
        self.hold(0, made, settings, told, count)
        free = [cell for cell in range(rows * columns) if cell not in trees]
        picker.shuffle(free)
        marks = [(cell, picker.choice((1, 2, 2))) for cell in free]
        self.hold_marks(0, made, brute.ways(settings, told, count), marks)

    def test_all_small_fields(self):
        picker = random.Random(1)
        for rows, columns in itertools.product((1, 2, 3), (1, 2, 3)):
            for many in (0, 1, 2, 3):
                for trees in itertools.combinations(range(rows * columns), min(many, rows * columns)):
                    self.hold_field(picker, rows, columns, list(trees))

    def test_greater_fields(self):
        picker = random.Random(2)
        for turn in range(60):
            rows, columns = picker.choice(((4, 4), (3, 5), (5, 3), (4, 5), (5, 4), (2, 5)))
            self.hold_field(picker, rows, columns, picker.sample(range(rows * columns), picker.choice((3, 4))))

    def test_greatest_fields(self):
        picker = random.Random(3)
        for turn in range(5):
            self.hold_field(picker, 5, 5, picker.sample(range(25), 6))


class Halls(Held):
    def hold_hall(self, picker, rows, columns, pillars):
        settings = brute.hall_settings(rows, columns, pillars)
        made = with_pillars(rows, columns, {cell: 9 for cell in pillars})

        def count(number, setting):
            return brute.hall_count(rows, columns, number, setting)

        self.hold_fill(1, made, settings, pillars, count, picker.randrange(len(settings) + 1))
        shown = picker.choice(settings)
        told = {cell: count(cell, shown) for cell in pillars if picker.randrange(5)}
        if pillars and picker.randrange(5) == 0:
            told[picker.choice(pillars)] = picker.randrange(5)
        made = with_pillars(rows, columns, {cell: told.get(cell, 9) for cell in pillars})
        self.hold(1, made, settings, told, count)
        free = [cell for cell in range(rows * columns) if cell not in pillars]
        picker.shuffle(free)
        marks = [(cell, picker.choice((1, 2, 2))) for cell in free]
        self.hold_marks(1, made, brute.ways(settings, told, count), marks)

    def test_all_small_halls(self):
        picker = random.Random(4)
        for rows, columns in itertools.product((1, 2, 3), (1, 2, 3)):
            cells = range(rows * columns)
            for many in range(rows * columns + 1):
                for pillars in itertools.combinations(cells, many):
                    self.hold_hall(picker, rows, columns, picker.sample(pillars, many))

    def test_greater_halls(self):
        picker = random.Random(5)
        for turn in range(150):
            rows, columns = picker.choice(((4, 4), (3, 4), (4, 3), (2, 4), (4, 2)))
            many = picker.randrange(3, rows * columns + 1)
            self.hold_hall(picker, rows, columns, picker.sample(range(rows * columns), many))


if __name__ == "__main__":
    unittest.main()
