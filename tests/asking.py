"""How the tests spell calls and split answers."""

from riddledesk.desk import answers


def begins(solvers):
    return [0, solvers]


def field(*deed):
    return [1, len(deed)] + list(deed)


def hall(*deed):
    return [2, len(deed)] + list(deed)


def good(riddle):
    return [3, riddle]


def thin(riddle):
    return [4, riddle]


def fill(riddle, ahead):
    return [5, riddle, ahead]


def mark(solver, riddle, cell, sign):
    return [6, solver, riddle, cell, sign]


def rub(solver, riddle, cell):
    return [7, solver, riddle, cell]


def next_sure(solver, riddle):
    return [8, solver, riddle]


def sheet(solver, riddle):
    return [9, solver, riddle]


def done(solver, riddle):
    return [10, solver, riddle]


def standing():
    return [11]


def state():
    return [12]


def split(told):
    """Each call's answer out of the one list of all."""
    parts = []
    at = 0
    while at < len(told):
        parts.append(told[at + 1:at + 1 + told[at]])
        at += 1 + told[at]
    if at != len(told):
        raise ValueError("the last answer is cut off")
    return parts


def ask(*calls):
    """Each call's answer."""
    parts = split(answers([number for call in calls for number in call]))
    if len(parts) != len(calls):
        raise ValueError("not as many answers as calls")
    return parts


def last(*calls):
    """The last call's answer."""
    return ask(*calls)[-1]


def behind(ahead, *calls):
    """The answers of the calls that stand behind those ahead."""
    return ask(*ahead, *calls)[len(ahead):]


def with_trees(rows, columns, *trees):
    """The calls that make such a field."""
    return [field(0, rows, columns)] + [field(1, tree) for tree in trees]


def with_pillars(rows, columns, pillars):
    """The calls that make such a hall; pillars tells each one's number."""
    return [hall(0, rows, columns)] + [hall(1, cell, pillars[cell]) for cell in pillars]
