import unittest

from tests.helper import (SIZES, TOP, Refusing, answers_to, area, between, border, cell, common_d, cut, flat,
                          fractions_behind, lean, mirror, nearest, now, picture, picture_behind, rounded, told,
                          told_area, told_between, turn, undo)

NEARLY = [(11, 11), (11, 7), (10, 10), (12, 12), (8, 4)]


class TheLowestD(unittest.TestCase):
    def test_all_cells_0(self):
        for change in [area, nearest, between]:
            for u, v in SIZES:
                calls = [picture(u, v, [0] * (u * v)), change(7, 11)]
                self.assertEqual(answers_to(*calls)[1], [7, 11, 1])
                self.assertEqual(set(flat(picture_behind(*calls).rows)), {0})

    def test_a_common_divisor_is_taken_out(self):
        self.assertEqual(answers_to(picture(2, 1, [2, 4]), area(1, 1))[1], [1, 1, 1])
        self.assertEqual(answers_to(picture(2, 1, [2, 3]), area(1, 1))[1], [1, 1, 2])
        self.assertEqual(answers_to(picture(4, 1, [2, 4, 6, 10]), area(1, 1))[1], [1, 1, 2])
        shown = picture_behind(picture(4, 1, [2, 4, 6, 10]), area(1, 1))
        self.assertEqual((shown.d, shown.rows), (2, [[11]]))

    def test_no_divisor_of_all_numbers_alone_is_taken_out(self):
        shown = picture_behind(picture(3, 1, [6, 12, 30]), area(1, 3))
        self.assertEqual((shown.d, shown.rows), (1, [[16], [16], [16]]))

    def test_behind_a_cut(self):
        calls = [picture(2, 1, [0, 1]), between(4, 1)]
        self.assertEqual(answers_to(*calls, cut(1, 0, 2, 1))[1:], [[4, 1, 4], [2, 1, 4]])
        self.assertEqual(answers_to(*calls, cut(0, 0, 1, 1))[1:], [[4, 1, 4], [1, 1, 1]])
        shown = picture_behind(*calls, cut(3, 0, 1, 1))
        self.assertEqual((shown.d, shown.rows), (1, [[1]]))

    def test_behind_border_lean_and_rounded(self):
        thirds = [picture(1, 1, [1]), border(2, 0, 0, 0, 0), area(1, 1), border(1, 0, 0, 0, 6)]
        self.assertEqual(answers_to(*thirds, lean(1), rounded())[3:], [[2, 1, 3], [2, 1, 3], [2, 1, 1]])
        self.assertEqual(picture_behind(*thirds), (3, [[18, 1]]))
        self.assertEqual(picture_behind(*thirds, cut(0, 0, 1, 1)), (1, [[6]]))


class TooLargeAD(Refusing):
    def sharper(self, rounds):
        """Two cells, d is 2 * 4 ** rounds: each round cuts out two cells a quarter as far apart as those before."""
        calls = [picture(2, 1, [0, 1])]
        for times in range(rounds):
            calls += [between(8, 1), cut(2, 0, 2, 1)]
        return calls

    def smaller(self, sizes):
        """One cell, d is the product of all the sizes: each time the cell gets a border of 0, and of that the mean."""
        calls = [picture(1, 1, [1])]
        for w, h in sizes:
            calls += [border(w - 1, 0, 0, h - 1, 0), area(1, 1)]
        return calls

    def test_4294967296_is_refused_and_all_is_as_it_was(self):
        before = self.sharper(15)
        self.assertEqual(answers_to(*before)[-1], [2, 1, 2 ** 31])
        self.assertEqual(common_d(told_between(fractions_behind(*before), 4, 1)), 2 ** 32)
        for change in [between(4, 1), between(8, 1), between(12, 12)]:
            self.assert_refused(before, change, -9)

    def test_by_areas_too(self):
        before = self.sharper(14) + [between(5, 1)]
        self.assertEqual(answers_to(*before)[-1], [5, 1, 5 * 2 ** 29])
        self.assert_refused(before, area(4, 1), -9)

    def test_just_4294967296_by_areas(self):
        before = self.smaller([(8, 8)] * 5)
        self.assertEqual(answers_to(*before)[-1], [1, 1, 2 ** 30])
        self.assertEqual(answers_to(*before, border(0, 1, 0, 0, 0), area(1, 1), now())[-2:],
                         [[1, 1, 2 ** 31], [1, 1, 2 ** 31, 1]])
        self.assert_refused(before + [border(3, 0, 0, 0, 0)], area(1, 1), -9)
        self.assert_refused(before + [border(1, 1, 0, 0, 0)], area(1, 1), -9)

    def test_the_highest_d_there_is_and_the_lowest_above_4294967296(self):
        # Sizes are at most 12, so d has no divisor but 2, 3, 5, 7, 11 and their products.
        self.assertEqual(answers_to(*self.smaller(NEARLY), now(), cell(0, 0), told())[-4:],
                         [[1, 1, 4293273600], [1, 1, 4293273600, 1], [1, 4293273600, 0], [1, 1, 1, 4293273600, 0]])
        before = self.smaller([(11, 11), (11, 7), (7, 7), (7, 7), (12, 8)]) + [border(1, 0, 0, 0, 0)]
        self.assertEqual(common_d(told_area(fractions_behind(*before), 1, 1)), 4295062464)
        self.assert_refused(before, area(1, 1), -9)

    def test_what_keeps_d_is_granted_at_the_highest(self):
        before = self.smaller(NEARLY)
        for change, size in [(turn(1), [1, 1]), (mirror(0), [1, 1]), (cut(0, 0, 1, 1), [1, 1]), (lean(11), [1, 1]),
                             (border(1, 2, 3, 4, 5), [5, 7]), (nearest(12, 3), [12, 3]), (area(12, 12), [12, 12]),
                             (between(2, 9), [2, 9])]:
            self.assertEqual(answers_to(*before, change)[-1], size + [4293273600], change)
        self.assertEqual(answers_to(*before, rounded(), undo())[-2:], [[1, 1, 1], [1, 1, 4293273600]])

    def test_numbers_above_4294967295(self):
        before = self.smaller(NEARLY) + [border(0, 0, 1, 0, 65535)]
        self.assertEqual(answers_to(*before, now(), cell(1, 0))[-2:],
                         [[2, 1, 4293273600, 1, 65535 * 4293273600], [65535, 1, 65535]])

    def test_what_is_below_it_is_granted(self):
        self.assertEqual(answers_to(*self.sharper(15), between(3, 1))[-1], [3, 1, 2 ** 31])
        self.assertEqual(answers_to(*self.sharper(14), between(12, 1))[-1], [12, 1, 3 * 2 ** 30])

    def test_another_refusal_is_told_first(self):
        self.assertEqual(answers_to(*self.sharper(15), between(13, 1), area(0, 1), cut(0, 0, 3, 1))[-3:], [[-1]] * 3)
        self.assertEqual(answers_to(*self.sharper(15), between(4, TOP), area(TOP, 4))[-2:], [[-1]] * 2)

    def test_a_d_that_can_be_lower_is_not_refused(self):
        # Before it is made lower, d is 2 ** 31 times 144 here.
        self.assertEqual(answers_to(*self.sharper(15), nearest(12, 12), area(6, 12))[-1], [6, 12, 2 ** 31])
