"""One cloth with its figure of lines, and the answers to a row of calls on it."""

LAST_HOLE = 63
MOST_LINES = 24

NO_SUCH = -2
LINE_IS_THERE = -17
WRONG_INPUT = -22
NO_LINE_FREE = -28

SW_START = 0
SW_LINE = 1
SW_DROP = 2
SW_THREADS = 3

# For each call, by its number, how many numbers stand behind that one.
NUMBERS_BEHIND = (0, 2, 1, 0)


def no_lines():
    return [None] * MOST_LINES


class Cloth:
    """The lines of one cloth: at each number the two ends, the lesser hole first, or None."""

    def __init__(self):
        self.lines = no_lines()

    def sw_start(self):
        self.lines = no_lines()
        return 0

    def sw_line(self, a, b):
        if a > LAST_HOLE or b > LAST_HOLE or a == b:
            return WRONG_INPUT
        # One order for both ways of naming a line, so that it is found again by either.
        ends = (min(a, b), max(a, b))
        if ends in self.lines:
            return LINE_IS_THERE
        if None not in self.lines:
            return NO_LINE_FREE
        number = self.lines.index(None)
        self.lines[number] = ends
        return number

    def sw_drop(self, line):
        if line >= MOST_LINES or self.lines[line] is None:
            return NO_SUCH
        self.lines[line] = None
        return 0

    def sw_threads(self):
        return len(beginnings(self.lines))


def other_ends(lines):
    """For each hole that has a line: the other ends of its lines, in order of their numbers."""
    others = {}
    for ends in lines:
        if ends is not None:
            others.setdefault(ends[0], []).append(ends[1])
            others.setdefault(ends[1], []).append(ends[0])
    return others


def hung_together(others, beginning):
    """The holes that a thread from the beginning comes to, as the keys of a dict."""
    reached = {beginning: True}
    waiting = [beginning]
    while waiting != []:
        here = waiting.pop()
        for there in others[here]:
            if there not in reached:
                reached[there] = True
                waiting.append(there)
    return reached


def beginnings(lines):
    """The holes where the threads begin, in order of the threads' numbers."""
    others = other_ends(lines)
    reached = {}
    found = []
    for hole in sorted(others):
        if hole not in reached:
            found.append(hole)
            reached.update(hung_together(others, hole))
    return found


def answer_to(cloth, call, numbers):
    """The numbers that are answered to one call."""
    if call == SW_START:
        return [cloth.sw_start()]
    if call == SW_LINE:
        return [cloth.sw_line(numbers[0], numbers[1])]
    if call == SW_DROP:
        return [cloth.sw_drop(numbers[0])]
    return [cloth.sw_threads()]


def answers(calls):
    """For each call, in order: how many numbers are answered, then these."""
    cloth = Cloth()
    answered = []
    at = 0
    while at < len(calls):
        behind = at + 1 + NUMBERS_BEHIND[calls[at]]
        answer = answer_to(cloth, calls[at], calls[at + 1:behind])
        answered.append(len(answer))
        answered.extend(answer)
        at = behind
    return answered
