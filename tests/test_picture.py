import unittest

from tests.helper import (TOP, SIZES, answers_to, area, between, border, cut, lean, mirror, mixed_cells, mixed_picture,
                          nearest, picture, picture_behind, rounded, turn)


class PictureIsDrawn(unittest.TestCase):
    def test_every_size_is_answered(self):
        for w in range(1, 13):
            for h in range(1, 13):
                self.assertEqual(answers_to(mixed_picture(w, h), turn(0)), [[w, h], [w, h, 1]])

    def test_numbers_are_row_by_row(self):
        shown = picture_behind(picture(3, 2, [1, 2, 3, 4, 5, 6]))
        self.assertEqual((shown.d, shown.rows), (1, [[1, 2, 3], [4, 5, 6]]))

    def test_numbers_with_a_common_divisor_stay(self):
        shown = picture_behind(picture(2, 1, [10, 20]))
        self.assertEqual((shown.d, shown.rows), (1, [[10, 20]]))

    def test_a_second_picture_takes_the_place_of_the_first(self):
        calls = [picture(2, 1, [0, 1]), area(1, 1), picture(1, 2, [8, 9]), turn(0)]
        self.assertEqual(answers_to(*calls), [[2, 1], [1, 1, 2], [1, 2], [1, 2, 1]])
        self.assertEqual(picture_behind(*calls).rows, [[8], [9]])


class PictureAtTheBeginning(unittest.TestCase):
    def test_it_is_one_cell_with_a_0(self):
        shown = picture_behind()
        self.assertEqual((shown.d, shown.rows), (1, [[0]]))

    def test_each_change_may_come_first(self):
        for change, size in [(area(3, 2), [3, 2, 1]), (nearest(3, 2), [3, 2, 1]), (between(3, 2), [3, 2, 1]),
                             (turn(1), [1, 1, 1]), (mirror(1), [1, 1, 1]), (cut(0, 0, 1, 1), [1, 1, 1]),
                             (border(1, 1, 0, 1, 0), [2, 3, 1]), (lean(3), [1, 1, 1]), (rounded(), [1, 1, 1])]:
            self.assertEqual(answers_to(change), [size])
            self.assertEqual(set(sum(picture_behind(change).rows, [])), {0})


class PictureIsRefused(unittest.TestCase):
    def test_sizes(self):
        for w, h in [(0, 1), (1, 0), (0, 0), (13, 1), (1, 13), (13, 13), (TOP, 1), (1, TOP), (TOP, TOP)]:
            count = min(w * h, 150)
            self.assertEqual(answers_to(picture(w, h, [5] * count)), [[-1]], (w, h))

    def test_the_largest_size_is_granted(self):
        self.assertEqual(answers_to(picture(12, 12, [7] * 144)), [[12, 12]])
        self.assertEqual(answers_to(picture(1, 1, [7])), [[1, 1]])

    def test_too_few_and_too_many_numbers(self):
        for w, h in SIZES:
            for count in {0, 1, w * h - 1, w * h + 1, 150} - {w * h}:
                self.assertEqual(answers_to(picture(w, h, [5] * count)), [[-1]], (w, h, count))

    def test_no_numbers_at_all(self):
        for w, h in [(1, 1), (0, 0), (0, 5), (5, 0), (12, 12)]:
            self.assertEqual(answers_to(picture(w, h, [])), [[-1]])

    def test_a_number_above_65535(self):
        self.assertEqual(answers_to(picture(2, 2, [65535] * 4)), [[2, 2]])
        for place in range(4):
            for number in [65536, TOP]:
                cells = [0, 65535, 0, 1]
                cells[place] = number
                self.assertEqual(answers_to(picture(2, 2, cells)), [[-2]])

    def test_the_one_told_first(self):
        self.assertEqual(answers_to(picture(13, 1, [65536] * 13)), [[-1]])
        self.assertEqual(answers_to(picture(2, 2, [65536] * 3)), [[-1]])
        self.assertEqual(answers_to(picture(2, 2, [65536] * 5)), [[-1]])

    def test_the_calls_behind_a_refused_picture_are_found(self):
        refused = [picture(13, 13, [6, 4, 1, 0, 0]), picture(1, 1, []), picture(3, 1, [1, 65536, 2])]
        self.assertEqual(answers_to(*refused, turn(3)), [[-1], [-1], [-2], [1, 1, 1]])

    def test_all_is_as_it_was(self):
        before = [mixed_picture(3, 2), area(2, 2)]
        was = picture_behind(*before)
        for refused in [picture(0, 3, []), picture(2, 2, [1]), picture(1, 1, [65536])]:
            shown = picture_behind(*before, refused)
            self.assertEqual((shown.d, shown.rows), (was.d, was.rows))
            self.assertEqual(answers_to(*before, refused, turn(0))[-1], [2, 2, was.d])

    def test_cells_differ(self):
        # The other tests lean on it: equal cells would hide that two have changed places.
        self.assertEqual(len(set(mixed_cells(144))), 144)
