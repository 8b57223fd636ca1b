"""Points 5 to 7 and what holds, through bothsides.cloth.answers alone."""

import random
import unittest

from tests.calls import (
    APART, HIGHEST, PATH, RING, STAR, START, THREADS,
    check, drop, figure, line, rows_told_after, sides, thread, told_after,
)

ABOVE_49 = (50, 51, 64, 255, 256, 2147483647, 2147483648, HIGHEST - 1, HIGHEST)
ALL_24 = 16777215

ONE = figure((5, 9))
TRIANGLE = figure((1, 2), (2, 3), (3, 1))
SQUARE = figure((1, 2), (2, 3), (3, 4), (4, 1))
TWO_APART = figure((5, 9), (7, 8))


def way_told(before, number):
    """The holes of a thread's way, without the 0 behind the last."""
    row = rows_told_after(before, thread(number))[0]
    return row[1:1 + row[0]]


class Thread(unittest.TestCase):
    def way(self, before, number, holes):
        """How many holes, these, and 0 behind the last up to 49 numbers."""
        asked = [len(holes)] + list(holes) + [0] * (49 - len(holes))
        self.assertEqual(rows_told_after(before, thread(number)), [asked])

    def none_from(self, before, number):
        for high in (number, number + 1, 24, 25, 63, 255, 256, 2147483648, HIGHEST - 1, HIGHEST):
            self.assertEqual(rows_told_after(before, thread(high)), [[-2]])

    def test_no_such_thread(self):
        self.none_from([START], 0)
        self.none_from(ONE, 1)
        self.none_from(TRIANGLE, 1)
        self.none_from(TWO_APART, 2)
        self.none_from(STAR, 1)
        self.none_from(APART, 24)

    def test_no_such_thread_any_more(self):
        self.none_from(TWO_APART + [drop(0)], 1)
        self.none_from(TWO_APART + [drop(0), drop(1)], 0)
        self.none_from(TWO_APART + [START], 0)
        self.none_from(TWO_APART + [line(9, 7)], 1)

    def test_one_line(self):
        self.way(ONE, 0, [5, 9, 5])
        self.way(figure((9, 5)), 0, [5, 9, 5])

    def test_one_line_with_the_first_and_the_last_hole(self):
        self.way(figure((0, 63)), 0, [0, 63, 0])
        self.way(figure((63, 0)), 0, [0, 63, 0])
        self.way(figure((63, 62)), 0, [62, 63, 62])
        self.way(figure((1, 0)), 0, [0, 1, 0])

    def test_path(self):
        self.way(figure((5, 3), (3, 60), (60, 0)), 0, [0, 60, 3, 5, 3, 60, 0])

    def test_path_from_its_midst(self):
        self.way(figure((1, 5), (1, 7), (7, 9)), 0, [1, 5, 1, 7, 9, 7, 1])
        self.way(figure((7, 9), (1, 7), (1, 5)), 0, [1, 7, 9, 7, 1, 5, 1])

    def test_star(self):
        self.way(figure((9, 1), (2, 9), (9, 63)), 0, [1, 9, 2, 9, 63, 9, 1])
        self.way(figure((9, 63), (2, 9), (9, 1)), 0, [1, 9, 63, 9, 2, 9, 1])

    def test_lines_in_order_of_their_numbers_not_of_their_ends(self):
        self.way(figure((0, 9), (0, 3), (0, 5)), 0, [0, 9, 0, 3, 0, 5, 0])
        self.way(figure((3, 0), (0, 9), (5, 0)), 0, [0, 3, 0, 9, 0, 5, 0])

    def test_tree(self):
        tree = figure((1, 10), (10, 2), (2, 20), (20, 3), (10, 30), (30, 4), (40, 30))
        self.way(tree, 0, [1, 10, 2, 20, 3, 20, 2, 10, 30, 4, 30, 40, 30, 10, 1])

    def test_ring(self):
        self.way(TRIANGLE, 0, [1, 2, 3, 1, 3, 2, 1])
        self.way(SQUARE, 0, [1, 2, 3, 4, 1, 4, 3, 2, 1])

    def test_ring_the_other_way_round(self):
        self.way(figure((2, 3), (3, 1), (1, 2)), 0, [1, 3, 2, 1, 2, 3, 1])

    def test_rings_with_a_common_hole(self):
        rings = figure((1, 2), (2, 3), (3, 1), (3, 8), (8, 9), (9, 3))
        self.way(rings, 0, [1, 2, 3, 1, 3, 8, 9, 3, 9, 8, 3, 2, 1])

    def test_rings_that_begin_at_their_common_hole(self):
        rings = figure((0, 2), (0, 8), (9, 0), (3, 0), (8, 9), (2, 3))
        self.way(rings, 0, [0, 2, 3, 0, 3, 2, 0, 8, 9, 0, 9, 8, 0])

    def test_rings_with_a_common_line(self):
        rings = figure((4, 6), (1, 4), (6, 1), (6, 7), (7, 4))
        self.way(rings, 0, [1, 4, 6, 1, 6, 7, 4, 7, 6, 4, 1])

    def test_several_lines_to_where_the_thread_has_been(self):
        several = figure((0, 1), (1, 2), (2, 3), (3, 0), (3, 1))
        self.way(several, 0, [0, 1, 2, 3, 0, 3, 1, 3, 2, 1, 0])
        turned = figure((0, 1), (1, 2), (2, 3), (3, 1), (3, 0))
        self.way(turned, 0, [0, 1, 2, 3, 1, 3, 0, 3, 2, 1, 0])

    def test_lines_back_stand_between_lines_on(self):
        # At the hole 2: line 1 leads to where the thread has been, 2 and 4 lead on, and 3 was gone along.
        mixed = figure((0, 1), (0, 2), (2, 5), (1, 2), (2, 6))
        self.way(mixed, 0, [0, 1, 2, 0, 2, 5, 2, 6, 2, 1, 0])

    def test_every_two_of_four_holes(self):
        whole = figure((10, 11), (10, 12), (10, 13), (11, 12), (11, 13), (12, 13))
        self.way(whole, 0, [10, 11, 12, 10, 12, 13, 10, 13, 11, 13, 12, 11, 10])

    def test_a_dropped_lines_number_given_again(self):
        star = figure((0, 5), (0, 6), (0, 7))
        self.way(star + [drop(0)], 0, [0, 6, 0, 7, 0])
        self.way(star + [drop(0), line(0, 8)], 0, [0, 8, 0, 6, 0, 7, 0])
        self.way(star + [drop(1), line(9, 0), line(0, 6)], 0, [0, 5, 0, 9, 0, 7, 0, 6, 0])
        self.way(star + [drop(2), drop(0), line(0, 7), line(0, 5)], 0, [0, 7, 0, 6, 0, 5, 0])

    def test_a_ring_after_a_drop(self):
        self.way(TRIANGLE + [drop(0)], 0, [1, 3, 2, 3, 1])
        self.way(TRIANGLE + [drop(1)], 0, [1, 2, 1, 3, 1])

    def test_threads_are_numbered_by_their_first_holes(self):
        figures = figure((40, 50), (10, 12), (11, 30), (12, 3))
        self.way(figures, 0, [3, 12, 10, 12, 3])
        self.way(figures, 1, [11, 30, 11])
        self.way(figures, 2, [40, 50, 40])
        self.none_from(figures, 3)

    def test_figures_whose_holes_lie_between_each_other(self):
        figures = figure((1, 3), (0, 2), (3, 5), (2, 4), (5, 1))
        self.way(figures, 0, [0, 2, 4, 2, 0])
        self.way(figures, 1, [1, 3, 5, 1, 5, 3, 1])

    def test_threads_change_with_the_lines(self):
        path = figure((1, 2), (2, 3), (3, 4))
        self.way(path, 0, [1, 2, 3, 4, 3, 2, 1])
        self.way(path + [drop(1)], 0, [1, 2, 1])
        self.way(path + [drop(1)], 1, [3, 4, 3])
        self.way(path + [drop(1), line(0, 4)], 0, [0, 4, 3, 4, 0])
        self.way(path + [drop(1), line(0, 4)], 1, [1, 2, 1])

    def test_24_figures(self):
        for k in range(24):
            self.way(APART, k, [2 * k, 2 * k + 1, 2 * k])

    def test_23_lines_in_one_figure(self):
        self.way(PATH[:-1], 0, list(range(24)) + list(range(22, -1, -1)))

    def test_24_lines_in_one_figure(self):
        self.way(PATH, 0, list(range(25)) + list(range(23, -1, -1)))
        self.way(RING, 0, list(range(40, 64)) + [40] + list(range(63, 39, -1)))
        star = [0]
        for k in range(1, 25):
            star += [k, 0]
        self.way(STAR, 0, star)

    def test_24_lines_fill_all_49(self):
        for full in (PATH, RING, STAR):
            row = rows_told_after(full, thread(0))[0]
            self.assertEqual((len(row), row[0]), (50, 49))
        self.assertEqual(rows_told_after(RING, thread(0))[0][-1], 40)

    def test_asking_changes_nothing(self):
        before = TWO_APART + [thread(0), thread(1), thread(2), thread(HIGHEST), thread(0)]
        asked = [[2], [-17], [-17], [2], [3, 1, 2, 1] + [0] * 46]
        self.assertEqual(rows_told_after(before, THREADS, line(5, 9), line(8, 7), line(1, 2), thread(0)), asked)


class Check(unittest.TestCase):
    def held(self, before, holes, asked):
        """The answer for these holes, whatever lies behind them."""
        for behind in (0, 1, 5, 9, 63, 64, 255):
            self.assertEqual(told_after(before, check(holes, behind=behind)), [asked], (holes, behind))

    def test_n_above_49(self):
        for n in ABOVE_49:
            self.assertEqual(told_after([START], check([], n)), [-22])
            self.assertEqual(told_after([START], check([], n, 255)), [-22])
            self.assertEqual(told_after(ONE, check([5, 9, 5], n)), [-22])
            self.assertEqual(told_after(PATH, check(way_told(PATH, 0), n)), [-22])

    def test_n_of_49(self):
        self.assertEqual(told_after([START], check([], 49)), [0])
        self.assertEqual(told_after(PATH, check([0] * 49, 49)), [0])
        for full in (PATH, RING, STAR):
            self.assertEqual(told_after(full, check(way_told(full, 0), 49)), [1])

    def test_no_holes(self):
        self.held([START], [], 1)
        self.held(ONE + [drop(0)], [], 1)
        self.held(PATH + [START], [], 1)
        self.held(ONE, [], 0)
        self.held(APART, [], 0)
        self.held(ONE + [START, line(1, 2)], [], 0)

    def test_one_hole_without_lines(self):
        for hole in range(64):
            self.held([START], [hole], 1)
        self.held(ONE + [drop(0)], [5], 1)
        self.held(ONE + [drop(0)], [40], 1)

    def test_one_hole_with_lines(self):
        self.held(ONE, [5], 0)
        self.held(ONE, [9], 0)
        self.held(ONE, [40], 0)
        self.held(PATH, [0], 0)

    def test_one_number_that_is_no_hole(self):
        for high in (64, 65, 69, 127, 128, 255):
            self.held([START], [high], 0)
            self.held(ONE, [high], 0)

    def test_several_holes_without_lines(self):
        self.held([START], [5, 9], 0)
        self.held([START], [5, 5], 0)
        self.held([START], [5, 9, 5], 0)

    def test_one_line(self):
        self.held(ONE, [5, 9, 5], 1)
        self.held(ONE, [9, 5, 9], 1)

    def test_number_above_63_among_the_first_n(self):
        for added in (64, 128, 192):
            self.held(ONE, [5 + added, 9, 5], 0)
            self.held(ONE, [5, 9 + added, 5], 0)
            self.held(ONE, [5, 9, 5 + added], 0)
            self.held(ONE, [5 + added, 9 + added, 5 + added], 0)
        self.held(ONE, [5, 9, 5, 64], 0)
        self.held(ONE, [255, 5, 9, 5], 0)

    def test_what_lies_behind_says_nothing(self):
        self.assertEqual(told_after(ONE, check([5, 9, 5, 9, 5], 3)), [1])
        self.assertEqual(told_after(ONE, check([5, 9, 5, 64, 255], 3)), [1])
        self.assertEqual(told_after(ONE, check([5, 9, 5], 2), check([5, 9, 5], 1), check([5, 9, 5], 0)), [0, 0, 0])
        self.assertEqual(told_after([START], check([5, 9, 5], 1), check([5, 255], 1), check([255], 0)), [1, 1, 1])

    def test_same_hole_twice(self):
        self.held(ONE, [5, 5], 0)
        self.held(ONE, [5, 9, 9, 5], 0)
        self.held(ONE, [5, 9, 5, 5], 0)
        self.held(ONE, [5, 5, 9, 5], 0)
        self.held(ONE, [5, 5, 5], 0)

    def test_no_line_between(self):
        self.held(ONE, [5, 8, 5], 0)
        self.held(figure((5, 9), (5, 7)), [5, 9, 7, 5, 9], 0)
        self.held(TWO_APART, [5, 9, 5, 7, 8, 7], 0)
        self.held(TWO_APART, [5, 9, 8, 7, 5], 0)

    def test_line_between_was_dropped(self):
        self.held(ONE + [drop(0)], [5, 9, 5], 0)
        self.held(TRIANGLE + [drop(1)], [1, 2, 3, 1, 3, 2, 1], 0)
        self.held(TRIANGLE + [drop(1)], [3, 1, 2, 1, 3], 1)
        self.held(ONE + [START], [5, 9, 5], 0)

    def test_line_with_a_dropped_lines_number(self):
        before = figure((1, 2), (2, 3)) + [drop(0), line(3, 4)]
        self.held(before, [2, 3, 4, 3, 2], 1)
        self.held(before, [1, 2, 3, 2, 1], 0)

    def test_numbers_need_not_stand_side_by_side(self):
        before = figure((1, 2), (2, 3), (3, 4)) + [drop(1), line(2, 4), drop(0)]
        self.held(before, [2, 4, 3, 4, 2], 1)

    def test_threads_own_way_where_all_hangs_together(self):
        for whole in (ONE, TRIANGLE, SQUARE, PATH, RING, STAR):
            self.held(whole, way_told(whole, 0), 1)

    def test_threads_own_way_where_not_all_hangs_together(self):
        for parts in (TWO_APART, TRIANGLE + [line(10, 11)], APART):
            self.held(parts, way_told(parts, 0), 0)
            self.held(parts, way_told(parts, 1), 0)

    def test_other_ways_than_a_threads(self):
        self.held(TRIANGLE, [2, 3, 1, 3, 2, 1, 2], 1)
        self.held(TRIANGLE, [3, 1, 3, 2, 1, 2, 3], 1)
        self.held(TRIANGLE, [1, 2, 1, 3, 2, 3, 1], 1)
        self.held(figure((0, 9), (0, 3)), [0, 3, 0, 9, 0], 1)
        self.held(figure((0, 9), (0, 3)), [9, 0, 3, 0, 9], 1)

    def test_ring_of_three_twice_round(self):
        self.held(TRIANGLE, [1, 2, 3, 1, 2, 3, 1], 1)
        self.held(TRIANGLE, [3, 2, 1, 3, 2, 1, 3], 1)

    def test_twice_on_one_side(self):
        self.held(SQUARE, [1, 2, 3, 4, 1, 2, 3, 4, 1], 0)
        self.held(SQUARE, [1, 2, 3, 4, 1, 4, 3, 2, 1], 1)

    def test_on_one_side_alone(self):
        self.held(ONE, [5, 9], 0)
        self.held(ONE, [9, 5], 0)
        self.held(TRIANGLE, [1, 2, 3, 1], 0)
        self.held(SQUARE, [1, 2, 3, 4, 1], 0)

    def test_some_line_not_at_all(self):
        self.held(TRIANGLE, [1, 2, 1], 0)
        self.held(TRIANGLE, [1, 2, 3, 2, 1], 0)
        self.held(STAR, way_told(STAR, 0)[:-2], 0)

    def test_more_often_than_once_on_each_side(self):
        self.held(ONE, [5, 9, 5, 9], 0)
        self.held(ONE, [5, 9, 5, 9, 5], 0)
        self.held(ONE, ([5, 9] * 25)[:49], 0)
        self.held(figure((1, 2), (2, 3)), [1, 2, 3, 2, 1, 2, 1], 0)

    def test_one_step_too_few_or_too_many(self):
        for whole, more in ((ONE, 9), (TRIANGLE, 2), (SQUARE, 4), (PATH[:-1], 1), (RING[:-1], 41)):
            way = way_told(whole, 0)
            self.held(whole, way, 1)
            self.held(whole, way[:-1], 0)
            self.held(whole, way[1:], 0)
            self.held(whole, way + [more], 0)
            self.held(whole, [more] + way, 0)
        for full in (PATH, RING, STAR):
            self.held(full, way_told(full, 0)[:-1], 0)

    def test_asking_changes_nothing(self):
        before = TWO_APART + [check([5, 9, 5]), check([5, 9, 5], 50), check([64])]
        self.assertEqual(told_after(before, THREADS, line(9, 5), line(8, 7), line(9, 8)), [2, -17, -17, 2])


class Sides(unittest.TestCase):
    def seen(self, before, holes, *asked):
        """The answer for these holes, whatever lies behind them."""
        for behind in (0, 1, 5, 9, 63, 64, 255):
            self.assertEqual(rows_told_after(before, sides(holes, behind=behind)), [list(asked)], (holes, behind))

    def test_n_above_49(self):
        for n in ABOVE_49:
            self.assertEqual(rows_told_after([START], sides([], n)), [[-22]])
            self.assertEqual(rows_told_after([START], sides([], n, 255)), [[-22]])
            self.assertEqual(rows_told_after(ONE, sides([5, 9, 5], n)), [[-22]])
            self.assertEqual(rows_told_after(PATH, sides(way_told(PATH, 0), n)), [[-22]])

    def test_n_of_49(self):
        self.assertEqual(rows_told_after([START], sides([], 49)), [[-22]])
        for full in (PATH, RING, STAR):
            self.seen(full, way_told(full, 0), 48, ALL_24, ALL_24)

    def test_no_holes(self):
        for before in ([START], ONE, PATH, APART, ONE + [drop(0)]):
            self.seen(before, [], 0, 0, 0)

    def test_one_hole(self):
        for hole in range(64):
            self.seen([START], [hole], 0, 0, 0)
            self.seen(ONE, [hole], 0, 0, 0)

    def test_one_number_that_is_no_hole(self):
        for high in (64, 65, 69, 127, 128, 255):
            self.seen([START], [high], -22)
            self.seen(ONE, [high], -22)

    def test_number_above_63_among_the_first_n(self):
        for added in (64, 128, 192):
            self.seen(ONE, [5 + added, 9, 5], -22)
            self.seen(ONE, [5, 9 + added, 5], -22)
            self.seen(ONE, [5, 9, 5 + added], -22)
            self.seen(ONE, [5 + added, 9 + added], -22)
        self.seen(ONE, [5, 9, 5, 64], -22)

    def test_what_lies_behind_says_nothing(self):
        rows = [[2, 1, 1], [1, 1, 0], [0, 0, 0], [0, 0, 0]]
        for row in ([5, 9, 5, 9, 5], [5, 9, 5, 5, 5], [5, 9, 5, 64, 255]):
            asked = [sides(row, n) for n in (3, 2, 1, 0)]
            self.assertEqual(rows_told_after(ONE, *asked), rows)

    def test_same_hole_twice(self):
        for row in ([5, 5], [0, 0], [5, 9, 9, 5], [5, 9, 5, 5], [5, 5, 9]):
            self.seen(ONE, row, -22)

    def test_no_line_between(self):
        self.seen([START], [5, 9], -22)
        self.seen(ONE, [5, 8], -22)
        self.seen(ONE, [5, 9, 8], -22)
        self.seen(TWO_APART, [5, 9, 5, 7, 8, 7], -22)
        self.seen(TWO_APART, [5, 9, 8, 7], -22)

    def test_line_between_was_dropped(self):
        self.seen(ONE + [drop(0)], [5, 9], -22)
        self.seen(TRIANGLE + [drop(1)], [1, 2, 3, 1], -22)
        self.seen(TRIANGLE + [drop(1)], [3, 1, 2], 2, 4, 1)
        self.seen(ONE + [START], [5, 9], -22)

    def test_front_first_then_back(self):
        self.seen(ONE, [5, 9], 1, 1, 0)
        self.seen(ONE, [9, 5], 1, 1, 0)
        self.seen(ONE, [5, 9, 5], 2, 1, 1)
        self.seen(SQUARE, [1, 2, 3], 2, 1, 2)
        self.seen(SQUARE, [1, 2, 3, 4], 3, 5, 2)
        self.seen(SQUARE, [1, 2, 3, 4, 1], 4, 5, 10)
        self.seen(SQUARE, [2, 3, 4, 1, 2], 4, 10, 5)
        self.seen(SQUARE, [4, 1, 2, 3], 3, 10, 1)

    def test_bit_of_each_line(self):
        for k in range(24):
            self.seen(APART, [2 * k, 2 * k + 1], 1, 1 << k, 0)
            self.seen(APART, [2 * k + 1, 2 * k, 2 * k + 1], 2, 1 << k, 1 << k)

    def test_line_0_and_line_23(self):
        self.seen(STAR, [0, 1, 0, 24, 0], 4, 1 + (1 << 23), 1 + (1 << 23))
        self.seen(STAR, [1, 0, 24], 2, 1, 1 << 23)
        self.seen(STAR, [24, 0, 1], 2, 1 << 23, 1)
        self.seen(RING, [63, 40, 41, 40], 3, 1 + (1 << 23), 1)

    def test_several_times_on_a_side(self):
        self.seen(ONE, [5, 9, 5, 9], 3, 1, 1)
        self.seen(ONE, [5, 9, 5, 9, 5], 4, 1, 1)
        self.seen(ONE, ([5, 9] * 25)[:49], 48, 1, 1)
        self.seen(SQUARE, [1, 2, 3, 4, 1, 2, 3, 4, 1], 8, 5, 10)
        self.seen(SQUARE, [1, 2, 3, 4, 1, 2, 3, 4, 1, 2, 3, 4, 1], 12, 5, 10)
        last = APART[-1][1:]
        self.seen(APART, [last[0], last[1], last[0], last[1]], 3, 1 << 23, 1 << 23)

    def test_ways_that_are_not_a_threads(self):
        self.seen(TRIANGLE, [2, 3, 1, 2, 1], 4, 2 + 1, 4 + 1)
        self.seen(TRIANGLE, [1, 2, 3, 1, 2, 3, 1], 6, 7, 7)
        self.seen(PATH, [10, 11, 12, 11, 10, 9], 5, (1 << 10) + (1 << 11) + (1 << 9), (1 << 11) + (1 << 10))
        self.seen(PATH, list(range(25)), 24, 0x555555, 0xAAAAAA)

    def test_one_of_several_figures(self):
        self.seen(TWO_APART, [5, 9, 5], 2, 1, 1)
        self.seen(TWO_APART, [8, 7, 8], 2, 2, 2)

    def test_a_dropped_lines_number_given_again(self):
        before = figure((1, 2), (2, 3), (3, 4)) + [drop(0), line(4, 9)]
        self.seen(before, [9, 4, 3, 2], 3, 1 + 2, 4)
        self.seen(before, [1, 2], -22)

    def test_asking_changes_nothing(self):
        before = TWO_APART + [sides([5, 9, 5]), sides([5, 9, 5], 50), sides([64]), sides([9, 8])]
        asked = [[2], [-17], [-17], [2]]
        self.assertEqual(rows_told_after(before, THREADS, line(9, 5), line(8, 7), line(9, 8)), asked)


def some_figure(source, holes):
    """Lines between some of the holes, and a few drops; which lines are there, by number."""
    before = [START]
    ends = {}
    for _ in range(source.randrange(1, 60)):
        free = [k for k in range(24) if k not in ends]
        a, b = source.sample(range(holes), 2)
        if ends and source.randrange(5) == 0:
            number = source.choice(sorted(ends))
            before.append(drop(number))
            ends.pop(number)
        elif free and {a, b} not in ends.values():
            before.append(line(a, b))
            ends[free[0]] = {a, b}
    return before, ends


def bits_by_figure(ends):
    """For each part that hangs together, from that with the least hole on: the bits of its lines."""
    parts = []
    for number, pair in ends.items():
        holes, bits = set(pair), 1 << number
        for part in [part for part in parts if part[0] & pair]:
            parts.remove(part)
            holes, bits = holes | part[0], bits | part[1]
        parts.append((holes, bits))
    return [bits for _, bits in sorted(parts, key=lambda part: min(part[0]))]


class WhatHolds(unittest.TestCase):
    def figures(self):
        for seed in range(400):
            source = random.Random(seed)
            yield some_figure(source, source.choice((3, 4, 5, 7, 9, 12, 20, 40, 64)))

    def ways(self, before):
        count = told_after(before, THREADS)[0]
        return [way_told(before, k) for k in range(count)]

    def test_alike_on_both_sides(self):
        for before, ends in self.figures():
            parts = bits_by_figure(ends)
            ways = self.ways(before)
            self.assertEqual(len(ways), len(parts))
            for way, bits in zip(ways, parts):
                self.assertEqual(way[0], way[-1])
                steps = 2 * bits.bit_count()
                self.assertEqual(rows_told_after(before, sides(way)), [[steps, bits, bits]])

    def test_each_line_by_one_thread(self):
        for before, ends in self.figures():
            seen = 0
            for way in self.ways(before):
                bits = rows_told_after(before, sides(way))[0][1]
                self.assertEqual(seen & bits, 0)
                seen |= bits
            self.assertEqual(seen, sum(1 << number for number in ends))

    def test_one_thread_is_enough_just_if_all_hangs_together(self):
        for before, ends in self.figures():
            ways = self.ways(before)
            for way in ways:
                self.assertEqual(told_after(before, check(way)), [1 if len(ways) == 1 else 0])
            self.assertEqual(told_after(before, check([])), [0 if ends else 1])

    def test_what_is_held_is_so(self):
        for before, ends in self.figures():
            for way in self.ways(before):
                turned = way[1:] + way[1:2]
                for other in (way, way[::-1], turned, way[:-1], way[:-2], way[2:]):
                    held = told_after(before, check(other))[0]
                    steps, front, back = rows_told_after(before, sides(other))[0]
                    if held:
                        self.assertEqual((steps, front), (2 * len(ends), back))
                    whole = len(other) == 2 * len(ends) + 1
                    self.assertEqual(held, 1 if whole else 0)


if __name__ == "__main__":
    unittest.main()
