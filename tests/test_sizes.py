import unittest
from fractions import Fraction

from tests.helper import (SIZES, TOP, answers_to, area, between, common_d, cut, flat, fractions_behind, mean, mirror,
                          mixed_cells, mixed_picture, nearest, picture, picture_behind, rows_of, told_area, told_between,
                          told_nearest, turn)

HALF = Fraction(1, 2)


class AsTheDocumentTells(unittest.TestCase):
    def assert_told(self, change, told):
        for u, v in SIZES:
            rows = rows_of(u, v, mixed_cells(u * v))
            for w, h in SIZES + [(v, u), (3, 8), (11, 2), (10, 10)]:
                expected = told(rows, w, h)
                calls = [mixed_picture(u, v), change(w, h)]
                self.assertEqual(fractions_behind(*calls), expected, (u, v, w, h))
                self.assertEqual(answers_to(*calls)[1], [w, h, common_d(expected)], (u, v, w, h))

    def test_area(self):
        self.assert_told(area, told_area)

    def test_nearest(self):
        self.assert_told(nearest, told_nearest)

    def test_between(self):
        self.assert_told(between, told_between)

    def assert_told_of_d_ths(self, change, told):
        rows = told_area(rows_of(4, 5, mixed_cells(20)), 3, 2)
        for w, h in SIZES:
            calls = [mixed_picture(4, 5), area(3, 2), change(w, h)]
            expected = told(rows, w, h)
            self.assertEqual(fractions_behind(*calls), expected)
            self.assertEqual(answers_to(*calls)[2], [w, h, common_d(expected)])

    def test_area_of_d_ths(self):
        self.assert_told_of_d_ths(area, told_area)

    def test_nearest_of_d_ths(self):
        self.assert_told_of_d_ths(nearest, told_nearest)

    def test_between_of_d_ths(self):
        self.assert_told_of_d_ths(between, told_between)


class ByAreas(unittest.TestCase):
    def test_smaller_larger_and_neither(self):
        drawn = picture(2, 2, [1, 2, 3, 5])
        self.assertEqual(fractions_behind(drawn, area(1, 1)), [[Fraction(11, 4)]])
        self.assertEqual(fractions_behind(drawn, area(4, 2)), [[1, 1, 2, 2], [3, 3, 5, 5]])
        self.assertEqual(fractions_behind(drawn, area(3, 1)), [[2, Fraction(11, 4), Fraction(7, 2)]])
        self.assertEqual(answers_to(drawn, area(3, 1)), [[2, 2], [3, 1, 4]])

    def test_a_new_cell_that_lies_in_four_old_ones(self):
        drawn = picture(3, 3, [9, 0, 0, 0, 0, 0, 0, 0, 0])
        self.assertEqual(fractions_behind(drawn, area(2, 2)), [[4, 0], [0, 0]])
        self.assertEqual(answers_to(drawn, area(2, 2))[1], [2, 2, 1])

    def test_the_mean_stays(self):
        for u, v in SIZES:
            was = mean(rows_of(u, v, mixed_cells(u * v)))
            for w in range(1, 13):
                calls = [mixed_picture(u, v), area(w, 13 - w)]
                self.assertEqual(mean(fractions_behind(*calls)), was)
                self.assertEqual(fractions_behind(*calls, area(1, 1)), [[was]])

    def test_by_way_of_a_multiple_is_as_at_once(self):
        for u, v, m, n in [(2, 3, 6, 9), (3, 4, 12, 4), (5, 2, 10, 12), (4, 6, 8, 12), (1, 1, 7, 11)]:
            drawn = mixed_picture(u, v)
            for w, h in SIZES:
                at_once = fractions_behind(drawn, area(w, h))
                self.assertEqual(fractions_behind(drawn, area(m, n), area(w, h)), at_once)
            for w, h in SIZES:
                at_once = fractions_behind(mixed_picture(w, h), area(u, v))
                self.assertEqual(fractions_behind(mixed_picture(w, h), area(m, n), area(u, v)), at_once)

    def test_the_same_size_changes_nothing(self):
        for change in [area, nearest, between]:
            for w, h in SIZES:
                self.assertEqual(fractions_behind(mixed_picture(w, h), change(w, h)),
                                 fractions_behind(mixed_picture(w, h)))


class ByTheNearest(unittest.TestCase):
    def test_larger_and_smaller(self):
        drawn = picture(3, 1, [7, 8, 9])
        self.assertEqual(fractions_behind(drawn, nearest(6, 2)), [[7, 7, 8, 8, 9, 9]] * 2)
        self.assertEqual(fractions_behind(drawn, nearest(1, 1)), [[8]])
        self.assertEqual(fractions_behind(drawn, nearest(5, 1)), [[7, 7, 8, 9, 9]])

    def test_a_middle_on_a_border_takes_the_one_behind_it(self):
        self.assertEqual(fractions_behind(picture(2, 1, [7, 8]), nearest(1, 1)), [[8]])
        self.assertEqual(fractions_behind(picture(1, 2, [7, 8]), nearest(1, 1)), [[8]])
        self.assertEqual(fractions_behind(picture(2, 2, [1, 2, 3, 4]), nearest(1, 1)), [[4]])
        self.assertEqual(fractions_behind(picture(4, 1, [1, 2, 3, 4]), nearest(2, 1)), [[2, 4]])
        self.assertEqual(fractions_behind(picture(1, 12, list(range(12))), nearest(1, 3)), [[2], [6], [10]])
        self.assertEqual(fractions_behind(picture(2, 1, [7, 8]), nearest(3, 1)), [[7, 8, 8]])

    def test_each_stays_what_it_was(self):
        for u, v in SIZES:
            old = set(mixed_cells(u * v))
            for w, h in SIZES:
                calls = [mixed_picture(u, v), nearest(w, h)]
                self.assertLessEqual(set(flat(fractions_behind(*calls))), old)
                self.assertEqual(answers_to(*calls)[1], [w, h, 1])


class ByWhatLiesBetween(unittest.TestCase):
    def test_larger_and_smaller(self):
        drawn = picture(2, 1, [0, 4])
        self.assertEqual(fractions_behind(drawn, between(1, 1)), [[2]])
        self.assertEqual(fractions_behind(drawn, between(3, 1)), [[0, 2, 4]])
        self.assertEqual(fractions_behind(drawn, between(4, 1)), [[0, 1, 3, 4]])
        self.assertEqual(fractions_behind(drawn, between(6, 2)), [[0, 0, Fraction(4, 3), Fraction(8, 3), 4, 4]] * 2)
        self.assertEqual(fractions_behind(picture(4, 1, [1, 2, 4, 8]), between(2, 1)), [[3 * HALF, 6]])

    def test_both_ways_at_once(self):
        drawn = picture(2, 2, [0, 16, 32, 64])
        self.assertEqual(fractions_behind(drawn, between(4, 4))[1], [8, 13, 23, 28])
        self.assertEqual(fractions_behind(drawn, between(1, 1)), [[28]])

    def test_ahead_of_the_first_middle_and_behind_the_last(self):
        for change in [between(12, 1), between(5, 1)]:
            row = fractions_behind(picture(2, 1, [10, 20]), change)[0]
            self.assertEqual((row[0], row[-1]), (10, 20))
        rows = fractions_behind(picture(1, 3, [10, 20, 90]), between(1, 12))
        self.assertEqual((rows[0], rows[1], rows[10], rows[11]), ([10], [10], [90], [90]))

    def test_one_cell_stays_what_it_is(self):
        self.assertEqual(fractions_behind(picture(1, 1, [9]), between(12, 12)), [[9] * 12] * 12)

    def test_what_lies_between_lies_between(self):
        for u, v in SIZES:
            old = mixed_cells(u * v)
            for w, h in SIZES:
                new = flat(fractions_behind(mixed_picture(u, v), between(w, h)))
                self.assertLessEqual(min(old), min(new))
                self.assertLessEqual(max(new), max(old))


class TurnedOrMirroredFirstOrLast(unittest.TestCase):
    def test_turned(self):
        for change in [area, between]:
            for u, v in SIZES:
                for w, h in [(3, 5), (12, 1), (7, 12)]:
                    for k in range(4):
                        last = [mixed_picture(u, v), change(w, h), turn(k)]
                        first = [mixed_picture(u, v), turn(k), change(*([w, h] if k in (0, 2) else [h, w]))]
                        self.assertEqual(fractions_behind(*first), fractions_behind(*last))
                        self.assertEqual(answers_to(*first)[-1], answers_to(*last)[-1])

    def test_turned_by_the_nearest_where_no_middle_is_on_a_border(self):
        self.assertEqual(fractions_behind(mixed_picture(6, 3), nearest(2, 9), turn(1)),
                         fractions_behind(mixed_picture(6, 3), turn(1), nearest(9, 2)))

    def test_mirrored(self):
        for change in [area, between]:
            for u, v in SIZES:
                for k in range(2):
                    self.assertEqual(fractions_behind(mixed_picture(u, v), change(5, 8), mirror(k)),
                                     fractions_behind(mixed_picture(u, v), mirror(k), change(5, 8)))


class SizesAreRefused(unittest.TestCase):
    def test_w_or_h_is_not_1_to_12(self):
        before = [mixed_picture(3, 2), area(2, 2)]
        was = picture_behind(*before)
        for change in [area, nearest, between]:
            for w, h in [(0, 1), (1, 0), (0, 0), (13, 1), (1, 13), (12, 13), (13, 12), (TOP, 5), (5, TOP), (0, TOP)]:
                self.assertEqual(answers_to(*before, change(w, h), turn(0))[2:], [[-1], [2, 2, was.d]])
                shown = picture_behind(*before, change(w, h))
                self.assertEqual((shown.d, shown.rows), (was.d, was.rows))

    def test_1_and_12_are_granted(self):
        for change in [area, nearest, between]:
            for w, h in [(1, 1), (12, 12), (1, 12), (12, 1)]:
                self.assertEqual(answers_to(picture(1, 1, [3]), change(w, h))[1], [w, h, 1])
