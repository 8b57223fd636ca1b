"""One cloth with its figure of lines, and the answers to a row of calls on it."""

LAST_HOLE = 63
MOST_LINES = 24
# A thread goes along each of 24 lines twice, and has a hole more than it has steps.
MOST_HOLES = 49

NO_SUCH = -2
LINE_IS_THERE = -17
WRONG_INPUT = -22
NO_LINE_FREE = -28

SW_START = 0
SW_LINE = 1
SW_DROP = 2
SW_THREADS = 3
SW_THREAD = 4
SW_CHECK = 5
SW_SIDES = 6

# For each call, by its number, how many whole numbers stand behind that one, ahead of a row.
NUMBERS_BEHIND = (0, 2, 1, 0, 1, 1, 1)


def no_lines():
    return [None] * MOST_LINES


class Cloth:
    """The lines of one cloth: at each number the two ends, the lesser hole first, or None."""

    def __init__(self):
        self.lines = no_lines()

    def sw_start(self):
        self.lines = no_lines()
        return 0

    def sw_line(self, a, b):
        if a > LAST_HOLE or b > LAST_HOLE or a == b:
            return WRONG_INPUT
        ends = between(a, b)
        if ends in self.lines:
            return LINE_IS_THERE
        if None not in self.lines:
            return NO_LINE_FREE
        number = self.lines.index(None)
        self.lines[number] = ends
        return number

    def sw_drop(self, line):
        if line >= MOST_LINES or self.lines[line] is None:
            return NO_SUCH
        self.lines[line] = None
        return 0

    def sw_threads(self):
        return len(thread_ways(self.lines))

    def sw_thread(self, t):
        """How many holes the thread's way has, and these, filled up with 0; or a refusal alone."""
        ways = thread_ways(self.lines)
        if t >= len(ways):
            return [NO_SUCH]
        way = ways[t]
        return [len(way)] + way + [0] * (MOST_HOLES - len(way))

    def sw_check(self, holes, n):
        if n > MOST_HOLES:
            return WRONG_INPUT
        along = lines_along(self.lines, holes[:n])
        if along is None:
            return 0
        numbers = [number for number, ends in enumerate(self.lines) if ends is not None]
        return 1 if sorted(front(along)) == numbers and sorted(back(along)) == numbers else 0

    def sw_sides(self, holes, n):
        """How many steps the way has, and the bits of the front and of the back; or a refusal alone."""
        if n > MOST_HOLES:
            return [WRONG_INPUT]
        along = lines_along(self.lines, holes[:n])
        if along is None:
            return [WRONG_INPUT]
        return [len(along), as_bits(front(along)), as_bits(back(along))]


def between(a, b):
    """The ends of a line in one order, so that it is found again by either way of naming it."""
    return (min(a, b), max(a, b))


def lines_at_holes(lines):
    """For each hole that has a line: the numbers of its lines, rising."""
    numbers = {}
    for number, ends in enumerate(lines):
        if ends is not None:
            numbers.setdefault(ends[0], []).append(number)
            numbers.setdefault(ends[1], []).append(number)
    return numbers


def other_end(ends, here):
    return ends[1] if ends[0] == here else ends[0]


def first_not_gone(numbers, gone):
    """The first of a hole's lines that wasn't gone along, or None."""
    for number in numbers:
        if number not in gone:
            return number
    return None


def thread_way(lines, at_holes, beginning):
    """The holes of the thread's way from the beginning, in order."""
    way = [beginning]
    been = {beginning: True}
    gone = {}
    # The holes that aren't done yet, each come to from the one before it.
    undone = [beginning]
    while undone != []:
        here = undone[-1]
        number = first_not_gone(at_holes[here], gone)
        if number is None:
            undone.pop()
            # Back along the line to the hole before; from the beginning there is none.
            way.extend(undone[-1:])
        else:
            gone[number] = True
            there = other_end(lines[number], here)
            way.append(there)
            if there in been:
                way.append(here)
            else:
                been[there] = True
                undone.append(there)
    return way


def thread_ways(lines):
    """The ways of all threads, in order of the threads' numbers."""
    at_holes = lines_at_holes(lines)
    been = {}
    ways = []
    for hole in sorted(at_holes):
        if hole not in been:
            way = thread_way(lines, at_holes, hole)
            ways.append(way)
            for reached in way:
                been[reached] = True
    return ways


def lines_along(lines, row):
    """The numbers of the lines that a row goes along, step by step, or None if it isn't a way."""
    # A row of one has no step that would show that its number is no hole.
    if max(row, default=0) > LAST_HOLE:
        return None
    along = []
    for step in range(1, len(row)):
        ends = between(row[step - 1], row[step])
        if ends not in lines:
            return None
        along.append(lines.index(ends))
    return along


def front(along):
    return along[0::2]


def back(along):
    return along[1::2]


def as_bits(numbers):
    bits = 0
    for number in numbers:
        bits = bits | (1 << number)
    return bits


def answer_to(cloth, call, numbers, row):
    """The numbers that are answered to one call."""
    if call == SW_START:
        return [cloth.sw_start()]
    if call == SW_LINE:
        return [cloth.sw_line(numbers[0], numbers[1])]
    if call == SW_DROP:
        return [cloth.sw_drop(numbers[0])]
    if call == SW_THREADS:
        return [cloth.sw_threads()]
    if call == SW_THREAD:
        return cloth.sw_thread(numbers[0])
    if call == SW_CHECK:
        return [cloth.sw_check(row, numbers[0])]
    return cloth.sw_sides(row, numbers[0])


def answers(calls):
    """For each call, in order: how many numbers are answered, then these."""
    cloth = Cloth()
    answered = []
    at = 0
    while at < len(calls):
        call = calls[at]
        behind = at + 1 + NUMBERS_BEHIND[call]
        numbers = calls[at + 1:behind]
        row = []
        if call == SW_CHECK or call == SW_SIDES:
            row_at = behind + 1
            behind = row_at + calls[behind]
            row = calls[row_at:behind]
        answer = answer_to(cloth, call, numbers, row)
        answered.append(len(answer))
        answered.extend(answer)
        at = behind
    return answered
