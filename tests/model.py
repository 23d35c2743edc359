"""A desk that finds all by trying everything, to hold whole lines of calls against."""

import copy
import functools
import itertools

import brute


@functools.lru_cache(maxsize=None)
def settings_of(riddle, rows, columns, blocked):
    find = brute.hall_settings if riddle else brute.field_settings
    return find(rows, columns, list(blocked))


class Model:
    def __init__(self, solvers=1):
        self.solvers = solvers
        self.riddles = [self.blank(1, 1), self.blank(1, 1)]
        self.sheets = {}

    def blank(self, rows, columns):
        return {"rows": rows, "columns": columns, "blocked": [], "told": {}}

    def settings(self, riddle):
        made = self.riddles[riddle]
        blocked = made["blocked"] if riddle == 0 else sorted(made["blocked"])
        return settings_of(riddle, made["rows"], made["columns"], tuple(blocked))

    def count(self, riddle, number, setting):
        made = self.riddles[riddle]
        find = brute.hall_count if riddle else brute.field_count
        return find(made["rows"], made["columns"], number, setting)

    def ways(self, riddle):
        told = self.riddles[riddle]["told"]
        return brute.ways(self.settings(riddle), told, lambda *number: self.count(riddle, *number))

    def fewest(self, riddle):
        told = self.riddles[riddle]["told"]
        return brute.fewest(self.settings(riddle), told, lambda *number: self.count(riddle, *number))

    def free(self, riddle):
        made = self.riddles[riddle]
        return [cell for cell in range(made["rows"] * made["columns"]) if cell not in made["blocked"]]

    def answer(self, call):
        before = copy.deepcopy(self.riddles)
        answered = self.act(call[0], call[1:])
        for solver, riddle in list(self.sheets):
            if self.riddles[riddle] != before[riddle]:
                self.sheets.pop((solver, riddle))
        return answered

    def act(self, call, told):
        if call == 0:
            if not 1 <= told[0] <= 4:
                return [-1]
            self.__init__(told[0])
            return [0]
        if call in (1, 2):
            return self.deed(call - 1, told[1:])
        if call == 11:
            return self.standing()
        if call == 12:
            kept = [list(place) + [len(one["marks"])] + one["kinds"] for place, one in self.sheets.items()]
            return [self.solvers, 6 * len(kept)] + sum(kept, [])
        if call in (3, 4, 5):
            return [-2] if told[0] > 1 else self.make(call, *told)
        if told[0] >= self.solvers or told[1] > 1:
            return [-2]
        return self.solve(call, told[0], told[1], told[2:])

    def deed(self, riddle, deed):
        wants = {0: 2, 1: 2, 2: 1, 4: 0, 8: 0, 11: 0} if riddle else {0: 2, 1: 1, 2: 1, 3: 2, 4: 2, 6: 0, 11: 0, 12: 0}
        if not deed or deed[0] not in wants or wants[deed[0]] != len(deed) - 1:
            return [-100]
        made = self.riddles[riddle]
        if deed[0] == 0:
            if not all(1 <= length <= 5 - riddle for length in deed[1:]):
                return [-1]
            self.riddles[riddle] = self.blank(deed[1], deed[2])
            return [deed[1] * deed[2]]
        if deed[0] in (1, 2):
            if deed[1] >= made["rows"] * made["columns"]:
                return [-2]
            there = deed[1] in made["blocked"]
            if deed[0] == 2:
                return self.take_away(riddle, made, deed[1], there)
            return self.pillar(made, deed[1], deed[2], there) if riddle else self.tree(made, deed[1], there)
        if riddle == 0 and deed[0] in (3, 4):
            return self.line(made, *deed)
        if deed[0] == (4 if riddle else 6):
            return [len(self.ways(riddle)), 2, len(self.ways(riddle)), len(self.settings(riddle))]
        if deed[0] == (8 if riddle else 11):
            choice = self.fewest(riddle)
            return [-6] if choice is None else [len(choice), len(choice)] + choice
        return self.hall_state(made) if riddle else self.field_state(made)

    def take_away(self, riddle, made, cell, there):
        if not there:
            return [-4]
        made["blocked"].remove(cell)
        if riddle:
            made["told"].pop(cell, None)
        return [len(made["blocked"])]

    def tree(self, made, cell, there):
        if there:
            return [-4]
        if len(made["blocked"]) == 6:
            return [-5]
        made["blocked"].append(cell)
        return [len(made["blocked"])]

    def pillar(self, made, cell, number, there):
        if number not in (0, 1, 2, 3, 4, 9):
            return [-1]
        if not there:
            made["blocked"].append(cell)
        made["told"].pop(cell, None)
        if number != 9:
            made["told"][cell] = number
        return [len(made["blocked"])]

    def line(self, made, call, line, tents):
        if line >= made["rows" if call == 3 else "columns"]:
            return [-2]
        if tents not in (0, 1, 2, 3, 4, 5, 6, 99):
            return [-1]
        number = line if call == 3 else made["rows"] + line
        made["told"].pop(number, None)
        if tents != 99:
            made["told"][number] = tents
        return [0]

    def field_state(self, made):
        answered = [len(made["blocked"]), len(made["blocked"])] + made["blocked"]
        answered += [made["rows"]] + [made["told"].get(n, 99) for n in range(made["rows"])]
        columns = range(made["rows"], made["rows"] + made["columns"])
        return answered + [made["columns"]] + [made["told"].get(n, 99) for n in columns] + [0, 0]

    def hall_state(self, made):
        shown = [n for cell in sorted(made["blocked"]) for n in (cell, made["told"].get(cell, 9))]
        return [len(made["blocked"]), 2, made["rows"], made["columns"], len(shown)] + shown + [0, 0]

    def make(self, call, riddle, ahead=0):
        made = self.riddles[riddle]
        choice = self.fewest(riddle)
        if call == 3:
            ways = len(self.ways(riddle))
            spare = 0 if choice is None else len(made["told"]) - len(choice)
            return [int(ways == 1 and spare == 0), 2, ways, spare]
        if call == 4:
            if choice is None:
                return [-6]
            made["told"] = {number: made["told"][number] for number in choice}
            return [len(choice), len(choice)] + choice
        settings = self.settings(riddle)
        if ahead >= len(settings):
            return [-6]
        numbers = made["blocked"] if riddle else range(made["rows"] + made["columns"])
        made["told"] = {number: self.count(riddle, number, settings[ahead]) for number in numbers}
        return [len(self.ways(riddle)), len(settings[ahead])] + settings[ahead]

    def left(self, riddle, marks):
        return [way for way in self.ways(riddle) if all((cell in way) == (marks[cell] == 1) for cell in marks)]

    def kind(self, riddle, marks, cell, sign):
        """2, 1 or 0, by counting the ways that the sheet leaves with the mark and with the other one."""
        so = len(self.left(riddle, {**marks, cell: sign}))
        otherwise = len(self.left(riddle, {**marks, cell: 3 - sign}))
        return 0 if so == 0 else 2 if otherwise == 0 else 1

    def solve(self, call, solver, riddle, told):
        one = self.sheets.get((solver, riddle), {"marks": {}, "kinds": [0, 0, 0]})
        marks = one["marks"]
        free = self.free(riddle)
        if call == 6:
            return self.mark(solver, riddle, one, *told)
        if call == 7:
            if told[0] not in marks:
                return [-4]
            marks.pop(told[0])
            return [len(marks)]
        if call == 8:
            if len(marks) == len(free):
                return [-4]
            for cell, sign in itertools.product(free, (1, 2)):
                if cell not in marks and self.kind(riddle, marks, cell, sign) == 2:
                    return [cell, 1, sign]
            return [-6]
        if call == 9:
            shown = [n for cell in sorted(marks) for n in (cell, marks[cell])]
            return [len(marks), len(shown)] + shown + [3] + one["kinds"]
        return [int(len(marks) == len(free) and len(self.left(riddle, marks)) > 0)]

    def mark(self, solver, riddle, one, cell, sign):
        if cell not in self.free(riddle) or sign not in (1, 2):
            return [-1]
        if cell in one["marks"]:
            return [-4]
        self.sheets.setdefault((solver, riddle), one)
        kind = self.kind(riddle, one["marks"], cell, sign)
        one["kinds"][2 - kind] += 1
        if kind:
            one["marks"][cell] = sign
        return [kind, 1, len(self.left(riddle, one["marks"]))]

    def standing(self):
        points = {solver: 0 for solver in range(self.solvers)}
        for (solver, riddle), one in self.sheets.items():
            sure, may_be, cannot_be = one["kinds"]
            points[solver] += 2 * sure + may_be - 3 * cannot_be
        ranked = sorted(points, key=lambda solver: (-points[solver], solver))
        return [self.solvers, 2 * self.solvers] + [n for solver in ranked for n in (solver, points[solver])]
