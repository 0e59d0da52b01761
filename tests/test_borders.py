from tests.helper import (SIZES, TOP, Refusing, answers_to, area, border, cell, flat, fractions_behind, lean, mixed_cells,
                          mixed_picture, now, picture, picture_behind, rounded, rows_of, told_area, told_border, told_lean,
                          told_rounded, turn)

FOUR = picture(2, 2, [1, 2, 3, 4])
HALVES = [picture(2, 1, [1, 2]), area(3, 1)]


class Borders(Refusing):
    def test_each_side_alone(self):
        self.assertEqual(picture_behind(FOUR, border(1, 0, 0, 0, 9)), (1, [[9, 1, 2], [9, 3, 4]]))
        self.assertEqual(picture_behind(FOUR, border(0, 1, 0, 0, 9)), (1, [[9, 9], [1, 2], [3, 4]]))
        self.assertEqual(picture_behind(FOUR, border(0, 0, 1, 0, 9)), (1, [[1, 2, 9], [3, 4, 9]]))
        self.assertEqual(picture_behind(FOUR, border(0, 0, 0, 1, 9)), (1, [[1, 2], [3, 4], [9, 9]]))

    def test_all_sides(self):
        self.assertEqual(picture_behind(FOUR, border(1, 2, 3, 1, 7)),
                         (1, [[7] * 6, [7] * 6, [7, 1, 2, 7, 7, 7], [7, 3, 4, 7, 7, 7], [7] * 6]))

    def test_f_is_whole_and_not_of_d_ths(self):
        self.assertEqual(picture_behind(*HALVES), (2, [[2, 3, 4]]))
        self.assertEqual(picture_behind(*HALVES, border(1, 0, 0, 0, 5)), (2, [[10, 2, 3, 4]]))
        self.assertEqual(picture_behind(*HALVES, border(0, 0, 2, 1, 1)), (2, [[2, 3, 4, 2, 2], [2] * 5]))
        self.assertEqual(answers_to(*HALVES, border(1, 1, 0, 0, 5), cell(0, 1), cell(2, 1))[2:],
                         [[4, 2, 2], [5, 1, 5], [3, 2, 2]])

    def test_f_is_0(self):
        self.assertEqual(picture_behind(FOUR, border(1, 1, 1, 1, 0)), (1, [[0] * 4, [0, 1, 2, 0], [0, 3, 4, 0], [0] * 4]))
        self.assertEqual(picture_behind(*HALVES, border(1, 0, 1, 0, 0)), (2, [[0, 2, 3, 4, 0]]))

    def test_answers(self):
        self.assertEqual(answers_to(border(1, 2, 3, 4, 5)), [[5, 7, 1]])
        self.assertEqual(answers_to(*HALVES, border(1, 2, 3, 4, 5))[2], [7, 7, 2])

    def test_as_the_document_tells(self):
        for w, h in SIZES:
            for before in [[mixed_picture(w, h)], [mixed_picture(5, 7), area(w, h)]]:
                rows = fractions_behind(*before)
                l, t = (12 - w) // 3, (12 - h) // 2
                r, b = 12 - w - l, 12 - h - t
                self.assertEqual(fractions_behind(*before, border(l, t, r, b, 321)), told_border(rows, l, t, r, b, 321))

    def test_cut_out_again(self):
        self.assertEqual(fractions_behind(mixed_picture(4, 3), border(2, 1, 5, 7, 8), [6, 2, 1, 4, 3]),
                         fractions_behind(mixed_picture(4, 3)))

    def test_no_border_at_all(self):
        for f in [0, 9, 65535]:
            self.assertEqual(answers_to(FOUR, border(0, 0, 0, 0, f), now())[1:], [[2, 2, 1], [2, 2, 1, 1, 2, 3, 4]])
            self.assertEqual(answers_to(mixed_picture(12, 12), border(0, 0, 0, 0, f))[1], [12, 12, 1])
        self.assertEqual(answers_to(*HALVES, border(0, 0, 0, 0, 9))[2], [3, 1, 2])
        self.assert_refused([FOUR], border(0, 0, 0, 0, 65536), -2)

    def test_12_columns_and_rows_but_not_13(self):
        for l, t, r, b in [(10, 0, 0, 0), (0, 10, 0, 0), (0, 0, 10, 0), (0, 0, 0, 10), (5, 3, 5, 7), (9, 1, 1, 9)]:
            self.assertEqual(answers_to(FOUR, border(l, t, r, b, 1))[1], [l + 2 + r, t + 2 + b, 1])
        for numbers in [(11, 0, 0, 0), (0, 11, 0, 0), (0, 0, 11, 0), (0, 0, 0, 11), (6, 0, 5, 0), (0, 5, 0, 6),
                        (10, 10, 1, 0), (10, 10, 0, 1)]:
            self.assert_refused([FOUR, turn(1)], border(*numbers, 1), -1)
        self.assertEqual(answers_to(border(11, 11, 0, 0, 1), border(1, 0, 0, 0, 1), border(0, 0, 0, 1, 1)),
                         [[12, 12, 1], [-1], [-1]])

    def test_f_above_65535(self):
        self.assertEqual(answers_to(FOUR, border(1, 0, 0, 0, 65535), now())[2], [3, 2, 1, 65535, 1, 2, 65535, 3, 4])
        for f in [65536, TOP]:
            self.assert_refused([FOUR, turn(1)], border(1, 0, 0, 0, f), -2)

    def test_the_one_told_first(self):
        for numbers in [(11, 0, 0, 0), (0, 0, 0, 11), (TOP, TOP, TOP, TOP)]:
            for f in [65536, TOP]:
                self.assert_refused([FOUR], border(*numbers, f), -1)

    def test_the_largest_numbers(self):
        for place in range(4):
            numbers = [0, 0, 0, 0]
            numbers[place] = TOP
            self.assert_refused([FOUR, area(3, 3)], border(*numbers, 1), -1)


class Leans(Refusing):
    def test_less_than_w(self):
        self.assertEqual(picture_behind(picture(3, 3, [1, 2, 3, 4, 5, 6, 7, 8, 9]), lean(1)),
                         (1, [[1, 2, 3], [6, 4, 5], [8, 9, 7]]))
        self.assertEqual(picture_behind(picture(3, 3, [1, 2, 3, 4, 5, 6, 7, 8, 9]), lean(2)),
                         (1, [[1, 2, 3], [5, 6, 4], [9, 7, 8]]))

    def test_by_0_and_by_w(self):
        for k in [0, 2, 4, 10]:
            self.assertEqual(picture_behind(FOUR, lean(k)), (1, [[1, 2], [3, 4]]))

    def test_more_than_w(self):
        for k in [3, 5, 7, 9, 11]:
            self.assertEqual(picture_behind(FOUR, lean(k)), (1, [[1, 2], [4, 3]]))
        self.assertEqual(picture_behind(picture(3, 2, [1, 2, 3, 4, 5, 6]), lean(11)), (1, [[1, 2, 3], [5, 6, 4]]))

    def test_one_row_and_one_column(self):
        for k in range(12):
            self.assertEqual(picture_behind(picture(4, 1, [1, 2, 3, 4]), lean(k)), (1, [[1, 2, 3, 4]]))
            self.assertEqual(picture_behind(picture(1, 4, [1, 2, 3, 4]), lean(k)), (1, [[1], [2], [3], [4]]))
            self.assertEqual(picture_behind(lean(k)), (1, [[0]]))

    def test_answers(self):
        self.assertEqual(answers_to(picture(3, 2, [1, 2, 3, 4, 5, 6]), lean(1))[1], [3, 2, 1])
        self.assertEqual(answers_to(*HALVES, lean(4))[2], [3, 1, 2])

    def test_d_ths(self):
        self.assertEqual(picture_behind(*HALVES, border(0, 1, 0, 0, 0), lean(1)), (2, [[0, 0, 0], [4, 2, 3]]))

    def test_as_the_document_tells(self):
        for w, h in SIZES:
            rows = rows_of(w, h, mixed_cells(w * h))
            for k in range(12):
                self.assertEqual(fractions_behind(mixed_picture(w, h), lean(k)), told_lean(rows, k))

    def test_more_than_11(self):
        self.assertEqual(answers_to(mixed_picture(12, 12), lean(11))[1], [12, 12, 1])
        for k in [12, 13, 24, 65536, TOP]:
            self.assert_refused([mixed_picture(12, 12), area(5, 5)], lean(k), -2)
            self.assert_refused([], lean(k), -2)


class Rounds(Refusing):
    def test_up_down_and_just_half(self):
        thirds = [picture(2, 1, [0, 1]), [3, 6, 1]]
        self.assertEqual(picture_behind(*thirds), (3, [[0, 0, 1, 2, 3, 3]]))
        self.assertEqual(picture_behind(*thirds, rounded()), (1, [[0, 0, 0, 1, 1, 1]]))
        quarters = [picture(2, 1, [4, 6]), [3, 8, 1]]
        self.assertEqual(picture_behind(*quarters), (4, [[16, 16, 17, 19, 21, 23, 24, 24]]))
        self.assertEqual(picture_behind(*quarters, rounded()), (1, [[4, 4, 4, 5, 5, 6, 6, 6]]))

    def test_of_two_as_near_the_greater(self):
        self.assertEqual(picture_behind(*HALVES, rounded()), (1, [[1, 2, 2]]))
        for low in [0, 1, 2, 3, 65534]:
            self.assertEqual(answers_to(picture(2, 1, [low, low + 1]), area(1, 1), rounded(), now())[2:],
                             [[1, 1, 1], [1, 1, 1, low + 1]])

    def test_just_below_and_just_above_a_half(self):
        below = picture(12, 12, [1] * 71 + [0] * 73)
        above = picture(12, 12, [1] * 73 + [0] * 71)
        self.assertEqual(picture_behind(below, area(1, 1), rounded()), (1, [[0]]))
        self.assertEqual(picture_behind(above, area(1, 1), rounded()), (1, [[1]]))

    def test_whole_numbers_stay(self):
        for w, h in SIZES:
            self.assertEqual(picture_behind(mixed_picture(w, h), rounded()), picture_behind(mixed_picture(w, h)))
        self.assertEqual(answers_to(rounded(), now()), [[1, 1, 1], [1, 1, 1, 0]])

    def test_a_common_divisor_of_whole_numbers_stays(self):
        self.assertEqual(picture_behind(picture(2, 1, [10, 20]), rounded()), (1, [[10, 20]]))

    def test_as_the_document_tells(self):
        for u, v in SIZES:
            for w, h in [(5, 4), (12, 11), (1, 1), (7, 3)]:
                calls = [mixed_picture(u, v), area(w, h)]
                expected = told_rounded(told_area(rows_of(u, v, mixed_cells(u * v)), w, h))
                self.assertEqual(answers_to(*calls, rounded(), now())[2:], [[w, h, 1], [w, h, 1] + flat(expected)])

    def test_twice_is_as_once(self):
        once = [mixed_picture(7, 5), area(4, 4), rounded()]
        self.assertEqual(picture_behind(*once, rounded()), picture_behind(*once))
