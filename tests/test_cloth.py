"""Points 1 to 4, through bothsides.cloth.answers alone."""

import unittest

from tests.calls import APART, HIGHEST, PATH, RING, STAR, START, THREADS, drop, line, told, told_after


class Start(unittest.TestCase):
    def test_at_the_beginning(self):
        self.assertEqual(told(START), [0])
        self.assertEqual(told(START, THREADS), [0, 0])

    def test_twice_at_the_beginning(self):
        self.assertEqual(told(START, START, THREADS), [0, 0, 0])

    def test_again_leaves_no_threads(self):
        self.assertEqual(told(START, line(1, 2), line(3, 4), THREADS, START, THREADS), [0, 0, 1, 2, 0, 0])

    def test_again_leaves_no_line_to_drop(self):
        before = [START, line(1, 2), line(3, 4), START]
        self.assertEqual(told_after(before, drop(0), drop(1)), [-2, -2])

    def test_again_frees_holes_and_numbers(self):
        before = [START, line(1, 2), line(3, 4), START]
        self.assertEqual(told_after(before, line(3, 4), line(1, 2)), [0, 1])

    def test_again_after_24_lines(self):
        before = STAR + [line(1, 2)]
        self.assertEqual(told_after(before, *STAR), [0] + list(range(24)))
        self.assertEqual(told_after(before, START, THREADS), [0, 0])

    def test_again_after_drops(self):
        before = [START, line(1, 2), line(3, 4), drop(0), START]
        self.assertEqual(told_after(before, line(5, 6), line(7, 8), THREADS), [0, 1, 2])


class Line(unittest.TestCase):
    def test_numbers_rise_from_0(self):
        self.assertEqual(told(START, line(5, 9), line(9, 2), line(2, 5)), [0, 0, 1, 2])

    def test_first_and_last_hole(self):
        self.assertEqual(told_after([START], line(0, 63), line(63, 62), line(1, 0)), [0, 1, 2])

    def test_every_hole_is_one(self):
        for hole in range(1, 64):
            self.assertEqual(told_after([START], line(0, hole), THREADS), [0, 1])
            self.assertEqual(told_after([START], line(hole, 0), THREADS), [0, 1])

    def test_hole_above_63(self):
        for high in (64, 65, 127, 128, 255, 256, 2147483647, 2147483648, HIGHEST):
            self.assertEqual(told_after([START], line(high, 0)), [-22])
            self.assertEqual(told_after([START], line(0, high)), [-22])
            self.assertEqual(told_after([START], line(high, 63)), [-22])
            self.assertEqual(told_after([START], line(63, high)), [-22])

    def test_both_above_63(self):
        self.assertEqual(told_after([START], line(64, 65), line(HIGHEST, 64), line(64, HIGHEST)), [-22] * 3)
        self.assertEqual(told_after([START], line(64, 64), line(HIGHEST, HIGHEST)), [-22] * 2)

    def test_a_and_b_the_same(self):
        for hole in range(64):
            self.assertEqual(told_after([START], line(hole, hole)), [-22])

    def test_line_between_them(self):
        before = [START, line(7, 3), line(3, 8)]
        self.assertEqual(told_after(before, line(7, 3), line(3, 7)), [-17, -17])
        self.assertEqual(told_after(before, line(3, 8), line(8, 3)), [-17, -17])

    def test_a_common_end_is_no_refusal(self):
        self.assertEqual(told_after([START, line(7, 3)], line(7, 4), line(4, 3), line(8, 7)), [1, 2, 3])

    def test_24_lines(self):
        for full in (STAR, APART, RING):
            self.assertEqual(told(*full), [0] + list(range(24)))
            self.assertEqual(told_after(full, line(61, 30), line(61, 30), line(30, 61)), [-28, -28, -28])

    def test_23_lines_leave_one(self):
        self.assertEqual(told_after(STAR[:-1], line(61, 62), line(62, 63)), [23, -28])

    def test_24_free_again_after_a_drop(self):
        self.assertEqual(told_after(STAR, drop(11), line(61, 62), line(62, 63)), [0, 11, -28])

    def test_wrong_holes_are_told_before_24_lines(self):
        wrong = [line(64, 1), line(1, 64), line(HIGHEST, 1), line(1, HIGHEST), line(30, 30), line(1, 1)]
        self.assertEqual(told_after(STAR, *wrong), [-22] * 6)

    def test_line_between_is_told_before_24_lines(self):
        self.assertEqual(told_after(STAR, line(0, 24), line(24, 0), line(1, 0)), [-17, -17, -17])

    def test_least_free_number_after_drops(self):
        before = [START] + [line(k, k + 1) for k in range(6)]
        after = [drop(4), drop(1), drop(3), line(10, 20), line(11, 20), line(12, 20), line(13, 20)]
        self.assertEqual(told_after(before, *after), [0, 0, 0, 1, 3, 4, 6])

    def test_least_free_number_after_the_first_and_the_last_drop(self):
        before = [START] + [line(k, k + 1) for k in range(3)]
        after = [drop(2), line(10, 20), drop(0), line(11, 20), line(12, 20)]
        self.assertEqual(told_after(before, *after), [0, 2, 0, 0, 3])

    def test_nothing_has_changed_after_wrong_holes(self):
        wrong = [line(64, 5), line(5, 64), line(HIGHEST, 5), line(5, HIGHEST), line(5, 5), line(64, 64)]
        before = [START, line(1, 2)] + wrong
        self.assertEqual(told_after(before, THREADS, drop(1), line(2, 1), line(5, 6), THREADS), [1, -2, -17, 1, 2])

    def test_nothing_has_changed_after_line_between(self):
        before = [START, line(1, 2), line(2, 1), line(1, 2)]
        self.assertEqual(told_after(before, THREADS, drop(1), line(5, 6), THREADS), [1, -2, 1, 2])
        self.assertEqual(told_after(before, drop(0), THREADS, line(2, 1)), [0, 0, 0])

    def test_nothing_has_changed_at_24_lines(self):
        before = APART + [line(50, 51), line(0, 2), line(0, 1), line(64, 0)]
        self.assertEqual(told_after(before, THREADS, drop(24)), [24, -2])
        self.assertEqual(told_after(before, drop(7), line(50, 51), THREADS), [0, 7, 24])
        ends = [line(2 * k + 1, 2 * k) for k in range(24)]
        self.assertEqual(told_after(before, *ends), [-17] * 24)


class Drop(unittest.TestCase):
    def test_number_never_given(self):
        self.assertEqual(told_after([START], drop(0), drop(1), drop(23)), [-2, -2, -2])
        self.assertEqual(told_after([START, line(1, 2)], drop(1), drop(2), drop(23)), [-2, -2, -2])

    def test_number_that_no_line_can_have(self):
        high = [drop(k) for k in (24, 25, 64, 255, 256, 2147483648, HIGHEST - 23, HIGHEST - 1, HIGHEST)]
        for before in ([START], [START, line(1, 2)], STAR):
            self.assertEqual(told_after(before, *high), [-2] * len(high))

    def test_dropped_already(self):
        self.assertEqual(told_after([START, line(1, 2), line(2, 3)], drop(0), drop(0), drop(0)), [0, -2, -2])

    def test_each_of_24(self):
        drops = [drop(k) for k in range(24)]
        self.assertEqual(told_after(STAR, *drops), [0] * 24)
        self.assertEqual(told_after(STAR, *drops, *drops), [0] * 24 + [-2] * 24)
        self.assertEqual(told_after(STAR, *drops, THREADS, line(0, 1)), [0] * 24 + [0, 0])

    def test_line_is_gone(self):
        before = [START, line(1, 2), line(2, 3)]
        self.assertEqual(told_after(before, drop(0), line(2, 1), line(1, 2)), [0, 0, -17])

    def test_other_lines_keep_their_numbers(self):
        before = [START, line(1, 2), line(3, 4), line(5, 6), drop(0)]
        self.assertEqual(told_after(before, line(3, 4), line(6, 5), drop(1), line(4, 3)), [-17, -17, 0, 0])
        self.assertEqual(told_after(before, drop(2), drop(2), drop(1), drop(1)), [0, -2, 0, -2])

    def test_number_given_again_can_be_dropped_again(self):
        before = [START, line(1, 2), drop(0), line(3, 4)]
        self.assertEqual(told_after(before, drop(0), drop(0)), [0, -2])

    def test_nothing_has_changed_after_a_refusal(self):
        before = [START, line(1, 2), line(3, 4), drop(2), drop(23), drop(24), drop(HIGHEST)]
        self.assertEqual(told_after(before, THREADS, line(2, 1), line(4, 3), line(5, 6)), [2, -17, -17, 2])
        twice = [START, line(1, 2), line(3, 4), drop(0), drop(0)]
        self.assertEqual(told_after(twice, THREADS, line(5, 6), line(7, 8)), [1, 0, 2])


class Threads(unittest.TestCase):
    def test_no_lines(self):
        self.assertEqual(told(START, THREADS, THREADS), [0, 0, 0])

    def test_no_lines_left(self):
        self.assertEqual(told_after([START, line(1, 2), drop(0)], THREADS), [0])

    def test_one_line(self):
        for a, b in ((0, 1), (1, 0), (0, 63), (63, 0), (62, 63), (63, 62), (17, 40)):
            self.assertEqual(told_after([START, line(a, b)], THREADS), [1])

    def test_lines_that_hang_together(self):
        path = [START, line(5, 3), line(3, 60), line(60, 0)]
        self.assertEqual(told_after(path, THREADS), [1])
        star = [START, line(9, 1), line(2, 9), line(9, 63)]
        self.assertEqual(told_after(star, THREADS), [1])
        tree = [START, line(1, 10), line(10, 2), line(2, 20), line(20, 3), line(10, 30), line(30, 4), line(40, 30)]
        self.assertEqual(told_after(tree, THREADS), [1])

    def test_hung_together_by_a_later_line(self):
        apart = [START, line(1, 2), line(3, 4), line(5, 6)]
        self.assertEqual(
            told_after(apart, THREADS, line(4, 5), THREADS, line(1, 6), THREADS),
            [3, 3, 2, 4, 1],
        )

    def test_round_in_a_ring(self):
        self.assertEqual(told_after([START, line(1, 2), line(2, 3), line(3, 1)], THREADS), [1])
        self.assertEqual(told_after([START, line(8, 4), line(4, 6), line(6, 2), line(2, 8)], THREADS), [1])
        self.assertEqual(told_after(RING, THREADS), [1])

    def test_two_rings_with_a_common_hole(self):
        rings = [START, line(1, 2), line(2, 3), line(3, 1), line(3, 8), line(8, 9), line(9, 3)]
        self.assertEqual(told_after(rings, THREADS), [1])

    def test_several_figures(self):
        figures = [START, line(0, 63), line(1, 62), line(62, 2), line(10, 11), line(11, 12), line(12, 10)]
        self.assertEqual(told_after(figures, THREADS), [3])

    def test_figures_whose_holes_lie_between_each_other(self):
        evens = [line(k, k + 2) for k in range(0, 20, 2)]
        odds = [line(k + 2, k) for k in range(1, 21, 2)]
        self.assertEqual(told_after([START] + evens + odds, THREADS), [2])

    def test_a_figure_parted_by_a_drop(self):
        path = [START, line(1, 2), line(2, 3), line(3, 4), line(4, 5), line(5, 6)]
        self.assertEqual(told_after(path, THREADS, drop(2), THREADS, line(6, 1), THREADS), [1, 0, 2, 2, 1])
        self.assertEqual(told_after(path, drop(1), drop(3), THREADS), [0, 0, 3])

    def test_a_drop_at_the_end_parts_nothing(self):
        path = [START, line(1, 2), line(2, 3), line(3, 4)]
        self.assertEqual(told_after(path, drop(0), THREADS, drop(2), THREADS, drop(1), THREADS), [0, 1, 0, 1, 0, 0])

    def test_a_ring_is_parted_by_the_second_drop(self):
        ring = [START, line(1, 2), line(2, 3), line(3, 4), line(4, 1)]
        self.assertEqual(told_after(ring, drop(0), THREADS, drop(2), THREADS), [0, 1, 0, 2])
        self.assertEqual(told_after(RING, drop(0), THREADS, drop(12), THREADS), [0, 1, 0, 2])

    def test_all_24_lines(self):
        self.assertEqual(told_after(STAR, THREADS), [1])
        self.assertEqual(told_after(APART, THREADS), [24])
        pairs = [line(3 * k, 3 * k + 1) for k in range(12)] + [line(3 * k + 2, 3 * k + 1) for k in range(12)]
        self.assertEqual(told_after([START] + pairs, THREADS), [12])
        self.assertEqual(told_after(PATH, THREADS), [1])
        self.assertEqual(told_after([START] + PATH[:0:-1], THREADS), [1])

    def test_asking_changes_nothing(self):
        before = [START, line(1, 2), THREADS, THREADS]
        self.assertEqual(told_after(before, line(2, 1), line(3, 4), THREADS), [-17, 1, 2])


if __name__ == "__main__":
    unittest.main()
