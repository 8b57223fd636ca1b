"""The calls as they are laid in a list, what is answered to each, and some full figures."""

from bothsides.cloth import answers

START = [0]
THREADS = [3]
HIGHEST = 4294967295


def line(a, b):
    return [1, a, b]


def drop(number):
    return [2, number]


def thread(number):
    return [4, number]


def row_of_49(holes, behind):
    return list(holes) + [behind] * (49 - len(holes))


def check(holes, n=None, behind=0):
    """Asks for the first n of the holes, for all of them without n; the row is filled up with what is behind."""
    return [5, len(holes) if n is None else n, 49] + row_of_49(holes, behind)


def sides(holes, n=None, behind=0):
    return [6] + check(holes, n, behind)[1:]


def laid(calls):
    """The calls one behind another in one list."""
    numbers = []
    for call in calls:
        numbers.extend(call)
    return numbers


def taken_apart(given, calls):
    """The numbers that are answered to each call, each row of them without its count."""
    rows = []
    at = 0
    for _ in calls:
        rows.append(given[at + 1:at + 1 + given[at]])
        at += 1 + given[at]
    if at != len(given):
        raise AssertionError(f"not {len(calls)} answers: {given}")
    return rows


def rows_told(*calls):
    """All numbers that are answered to each call, as one list each."""
    return taken_apart(answers(laid(calls)), calls)


def rows_told_after(before, *calls):
    """All numbers that are answered to each of the calls that come behind those before."""
    return rows_told(*before, *calls)[len(before):]


def told(*calls):
    """The one number answered to each call; each must stand alone behind its count."""
    rows = rows_told(*calls)
    if [len(row) for row in rows] != [1] * len(calls):
        raise AssertionError(f"not one number for each of {len(calls)} calls: {rows}")
    return [row[0] for row in rows]


def told_after(before, *calls):
    """The one number answered to each of the calls that come behind those before."""
    return told(*before, *calls)[len(before):]


def figure(*pairs):
    """A start, and a line between the two holes of each pair, numbered from 0."""
    return [START] + [line(a, b) for a, b in pairs]


# 24 lines that all have the hole 0: one figure.
STAR = figure(*[(0, k) for k in range(1, 25)])
# 24 lines without a common hole: 24 figures.
APART = figure(*[(2 * k, 2 * k + 1) for k in range(24)])
# 24 lines round in a ring of 24 holes.
RING = figure(*[(k + 40, k + 41) for k in range(23)], (63, 40))
# 24 lines one behind another.
PATH = figure(*[(k, k + 1) for k in range(24)])
