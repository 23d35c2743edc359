"""Settings, ways and fewest choices found by trying everything, to hold the program's answers against."""

import itertools


def beside(rows, columns, one, other):
    down = abs(one // columns - other // columns)
    across = abs(one % columns - other % columns)
    return down + across == 1


def touch(columns, one, other):
    return max(abs(one // columns - other // columns), abs(one % columns - other % columns)) == 1


def in_order(rows, columns, settings):
    return sorted(settings, key=lambda setting: [cell not in setting for cell in range(rows * columns)])


def field_settings(rows, columns, trees):
    free = [cell for cell in range(rows * columns) if cell not in trees]
    found = []
    for tents in itertools.combinations(free, len(trees)):
        if any(touch(columns, one, other) for one, other in itertools.combinations(tents, 2)):
            continue
        for given in itertools.permutations(trees):
            if all(beside(rows, columns, tent, tree) for tent, tree in zip(tents, given)):
                found.append(list(tents))
                break
    return in_order(rows, columns, found)


def field_count(rows, columns, number, setting):
    if number < rows:
        return sum(1 for tent in setting if tent // columns == number)
    return sum(1 for tent in setting if tent % columns == number - rows)


def lights(rows, columns, pillars, one, other):
    low, high = min(one, other), max(one, other)
    if low // columns == high // columns:
        between = range(low, high + 1)
    elif low % columns == high % columns:
        between = range(low, high + 1, columns)
    else:
        return False
    return not any(cell in pillars for cell in between)


def hall_settings(rows, columns, pillars):
    free = [cell for cell in range(rows * columns) if cell not in pillars]
    seen = {cell: [other for other in free if lights(rows, columns, pillars, cell, other)] for cell in free}
    found = []
    for size in range(len(free) + 1):
        for lamps in itertools.combinations(free, size):
            if all(sum(1 for lamp in lamps if lamp in seen[cell]) >= 1 for cell in free):
                if all(other == lamp or other not in seen[lamp] for lamp in lamps for other in lamps):
                    found.append(list(lamps))
    return in_order(rows, columns, found)


def hall_count(rows, columns, number, setting):
    return sum(1 for lamp in setting if beside(rows, columns, number, lamp))


def ways(settings, told, count):
    return [s for s in settings if all(count(number, s) == told[number] for number in told)]


def fewest(settings, told, count):
    """The first of the smallest choices that are enough; None if all that are told aren't."""
    if len(ways(settings, told, count)) != 1:
        return None
    for size in range(len(told) + 1):
        for choice in itertools.combinations(sorted(told), size):
            if len(ways(settings, {number: told[number] for number in choice}, count)) == 1:
                return list(choice)
