"""How calls are laid in the list and what is given back, through bothsides.cloth.answers alone."""

import builtins
import contextlib
import io
import random
import unittest
from collections import Counter
from unittest import mock

from bothsides.cloth import answers
from tests.calls import (
    APART, HIGHEST, PATH, RING, STAR, START, THREADS,
    check, drop, laid, line, rows_told, sides, thread, told, told_after,
)


class Plain:
    """The same promises, said another way: lines by number in a dict, figures by melting sets."""

    def __init__(self):
        self.ends = {}

    def told(self, call):
        if call[0] in (5, 6):
            return (self.check, self.sides)[call[0] - 5](call[3:], call[1])
        if call[0] == 4:
            return self.thread(call[1])
        return [(self.start, self.line, self.drop, self.threads)[call[0]](*call[1:])]

    def start(self):
        self.ends = {}
        return 0

    def line(self, a, b):
        if not {a, b} <= set(range(64)) or len({a, b}) == 1:
            return -22
        if {a, b} in self.ends.values():
            return -17
        if len(self.ends) == 24:
            return -28
        number = min(set(range(24)) - set(self.ends))
        self.ends[number] = {a, b}
        return number

    def drop(self, number):
        return -2 if self.ends.pop(number, None) is None else 0

    def figures(self):
        """The holes of each figure, that with the least hole first."""
        figures = []
        for ends in self.ends.values():
            melted = set(ends).union(*[figure for figure in figures if figure & ends])
            figures = [figure for figure in figures if not figure & ends] + [melted]
        return sorted(figures, key=min)

    def threads(self):
        return len(self.figures())

    def way_from(self, hole, been, gone):
        """Word by word as it is told: the way from a hole till that's done."""
        been.add(hole)
        way = [hole]
        for number in sorted(self.ends):
            if hole in self.ends[number] and number not in gone:
                gone.add(number)
                there = sum(self.ends[number]) - hole
                way += [there] if there in been else self.way_from(there, been, gone)
                way += [hole]
        return way

    def ways(self):
        return [self.way_from(min(figure), set(), set()) for figure in self.figures()]

    def thread(self, number):
        ways = self.ways()
        if number not in range(len(ways)):
            return [-2]
        way = ways[number]
        return [len(way)] + (way + [0] * 49)[:49]

    def steps(self, row):
        """(line, side) of each step, the front being 0; None where the row isn't a way."""
        if not set(row) <= set(range(64)):
            return None
        numbers = {frozenset(ends): number for number, ends in self.ends.items()}
        pairs = [frozenset(pair) for pair in zip(row, row[1:])]
        if not all(pair in numbers for pair in pairs):
            return None
        return [(numbers[pair], k % 2) for k, pair in enumerate(pairs)]

    def check(self, row, n):
        if n > 49:
            return [-22]
        steps = self.steps(row[:n])
        asked = Counter((number, side) for number in self.ends for side in (0, 1))
        return [1 if steps is not None and Counter(steps) == asked else 0]

    def sides(self, row, n):
        if n > 49 or self.steps(row[:n]) is None:
            return [-22]
        steps = self.steps(row[:n])
        seen = set(steps)
        return [len(steps)] + [sum(1 << number for number, on in seen if on == side) for side in (0, 1)]


def some_walk(source, plain, most):
    """A row that goes along lines as long as there is one to go along."""
    way = [source.randrange(64)]
    if plain.ends:
        way = [source.choice(sorted(source.choice(list(plain.ends.values()))))]
    while len(way) < most:
        others = [sum(ends) - way[-1] for ends in plain.ends.values() if way[-1] in ends]
        if not others:
            return way
        way.append(source.choice(others))
    return way


def some_row(source, plain):
    """Up to 49 numbers that are a way more often than not, and sometimes one that does it."""
    kind = source.randrange(10)
    ways = plain.ways()
    if kind < 5 and ways:
        way = source.choice(ways)
        if kind == 0:
            way = way[1:] + way[1:2]
        if kind == 1:
            way = way[:source.randrange(len(way))]
        if kind == 2:
            way = list(way)
            way[source.randrange(len(way))] = source.randrange(80)
        return way
    if kind < 9:
        return some_walk(source, plain, source.randrange(50))
    return [source.randrange(256) for _ in range(source.randrange(50))]


def some_row_call(source, plain):
    row = some_row(source, plain)
    n = source.choice((None, None, None, None, source.randrange(52), HIGHEST))
    behind = source.choice((0, source.randrange(256)))
    return source.choice((check, sides))(row, n, behind)


def some_call(source, plain, holes, starts):
    kind = source.randrange(100)
    if kind < starts:
        return START
    if kind < 35:
        return line(source.randrange(holes), source.randrange(holes))
    if kind < 45:
        return drop(source.randrange(26))
    if kind < 50:
        return THREADS
    if kind < 65:
        return thread(source.choice((0, 0, 1, plain.threads(), source.randrange(26), HIGHEST)))
    return some_row_call(source, plain)


def some_calls(source, holes, starts):
    """1000 calls of all seven kinds, and what is asked to be answered to each."""
    plain = Plain()
    calls = [START]
    asked = [plain.told(START)]
    while len(calls) < 1000:
        call = some_call(source, plain, holes, starts)
        calls.append(call)
        asked.append(plain.told(call))
    return calls, asked


ALL_SEVEN = STAR + [
    THREADS, thread(0), thread(1), check([0, 1, 0]), sides([0, 1, 0]), sides([0, 64]), drop(3), drop(3), line(0, 64),
    check([], 50), sides([], 50), START, line(9, 8), THREADS, thread(0), check([8, 9, 8]), sides([9, 8, 9]),
]


class Interface(unittest.TestCase):
    def same(self, given, asked):
        """For long lists: the first difference alone, as to lay out all of them takes many minutes."""
        self.assertEqual(len(given), len(asked))
        for k in range(len(asked)):
            self.assertEqual(given[k], asked[k], f"at {k}")

    def test_how_many_numbers_then_these(self):
        calls = [0, 3, 1, 5, 6, 1, 6, 5, 1, 64, 0, 3, 2, 0, 2, 0, 3]
        self.assertEqual(answers(calls), [1, 0, 1, 0, 1, 0, 1, -17, 1, -22, 1, 1, 1, 0, 1, -2, 1, 0])

    def test_how_many_numbers_of_a_thread(self):
        self.assertEqual(answers([0, 1, 5, 6, 4, 0, 3]), [1, 0, 1, 0, 50, 3, 5, 6, 5] + [0] * 46 + [1, 1])
        self.assertEqual(answers([0, 1, 5, 6, 4, 1, 3]), [1, 0, 1, 0, 1, -2, 1, 1])

    def test_how_many_numbers_of_a_check(self):
        row = [5, 6, 5] + [0] * 46
        self.assertEqual(answers([0, 1, 5, 6, 5, 3, 49] + row + [3]), [1, 0, 1, 0, 1, 1, 1, 1])
        self.assertEqual(answers([0, 1, 5, 6, 5, 2, 49] + row + [3]), [1, 0, 1, 0, 1, 0, 1, 1])
        self.assertEqual(answers([0, 1, 5, 6, 5, 50, 49] + row + [3]), [1, 0, 1, 0, 1, -22, 1, 1])

    def test_how_many_numbers_of_sides(self):
        row = [5, 6, 5] + [0] * 46
        self.assertEqual(answers([0, 1, 5, 6, 6, 2, 49] + row + [3]), [1, 0, 1, 0, 3, 1, 1, 0, 1, 1])
        self.assertEqual(answers([0, 1, 5, 6, 6, 0, 49] + row + [3]), [1, 0, 1, 0, 3, 0, 0, 0, 1, 1])
        self.assertEqual(answers([0, 1, 5, 6, 6, 4, 49] + row + [3]), [1, 0, 1, 0, 1, -22, 1, 1])
        self.assertEqual(answers([0, 1, 5, 6, 6, 50, 49] + row + [3]), [1, 0, 1, 0, 1, -22, 1, 1])

    def test_one_call(self):
        self.assertEqual(answers([0]), [1, 0])

    def test_arguments_that_look_like_calls(self):
        calls = [0, 1, 1, 2, 1, 0, 1, 1, 3, 0, 2, 0, 2, 1, 3, 2, 2, 3]
        self.assertEqual(answers(calls), [1, 0, 1, 0, 1, 1, 1, 2, 1, 0, 1, 0, 1, 1, 1, 0, 1, 0])

    def test_rows_that_look_like_calls(self):
        for k in range(7):
            calls = [START, check([k] * 49, 0), sides([k] * 49, 0), check([k] * 49, 1), THREADS]
            self.assertEqual(rows_told(*calls), [[0], [1], [0, 0, 0], [1], [0]])

    def test_kinds_of_what_is_given_back(self):
        given = answers(laid(ALL_SEVEN))
        self.assertIs(type(given), list)
        self.assertEqual({type(number) for number in given}, {int})

    def test_1000_calls(self):
        turn = [line(0, 1), line(1, 2), THREADS, drop(0), drop(1)]
        calls = [START] + turn * 199 + [THREADS] * 4
        self.assertEqual(len(calls), 1000)
        self.same(told(*calls), [0] + [0, 1, 1, 0, 0] * 199 + [0] * 4)

    def test_1000_starts(self):
        self.same(answers([0] * 1000), [1, 0] * 1000)

    def test_1000_calls_at_24_lines(self):
        self.same(told_after(APART, *[THREADS] * 975), [24] * 975)
        self.same(told_after(RING, *[line(0, 1)] * 975), [-28] * 975)

    def test_1000_calls_for_a_thread_of_24_lines(self):
        way = list(range(25)) + list(range(23, -1, -1))
        self.same(rows_told(*PATH, *[thread(0)] * 975)[25:], [[49] + way] * 975)

    def test_as_many_rows_as_the_list_can_hold(self):
        way = list(range(25)) + list(range(23, -1, -1))
        calls = PATH + [check(way), sides(way)] * 287
        self.assertLess(30000 - len(laid(calls)), 104)
        self.same(rows_told(*calls)[25:], [[1], [48, 16777215, 16777215]] * 287)

    def test_against_the_promises_said_another_way(self):
        for seed, holes in enumerate((3, 4, 5, 6, 8, 10, 16, 24, 40, 64, 66) * 4):
            calls, asked = some_calls(random.Random(seed), holes, seed % 3)
            self.assertLessEqual(len(laid(calls)), 30000)
            self.same(rows_told(*calls), asked)

    def test_what_is_handed_in_is_as_it_was(self):
        calls = laid(ALL_SEVEN)
        before = list(calls)
        answers(calls)
        self.assertEqual(calls, before)

    def test_what_is_handed_in_is_not_changed_for_a_while_either(self):
        calls = laid(ALL_SEVEN)
        self.assertEqual(answers(Unchanging(calls)), answers(calls))

    def test_a_second_time(self):
        calls = laid(ALL_SEVEN)
        first = answers(calls)
        self.assertEqual(answers(calls), first)
        self.assertIsNot(answers(calls), first)

    def test_nothing_is_kept(self):
        answers(laid(APART))
        self.assertEqual(told(START, THREADS, line(0, 1), THREADS), [0, 0, 0, 1])
        # What was given back is the asker's own: to change it changes no later answer.
        answers([0, 3]).append(7)
        self.assertEqual(answers([0, 3]), [1, 0, 1, 0])

    def test_nothing_is_printed_read_or_imported(self):
        calls = laid(ALL_SEVEN)
        shown = io.StringIO()
        with contextlib.redirect_stdout(shown), contextlib.redirect_stderr(shown):
            with mock.patch.object(builtins, "__import__", side_effect=AssertionError("imported")), \
                    mock.patch.object(builtins, "open", side_effect=AssertionError("opened")), \
                    mock.patch.object(builtins, "input", side_effect=AssertionError("read")):
                answers(calls)
        self.assertEqual(shown.getvalue(), "")


class Unchanging(list):
    """A list that refuses each change."""

    def refuse(self, *args, **kwargs):
        raise AssertionError("what was handed in was changed")

    append = extend = insert = pop = remove = clear = sort = reverse = refuse
    __setitem__ = __delitem__ = __iadd__ = __imul__ = refuse


if __name__ == "__main__":
    unittest.main()
