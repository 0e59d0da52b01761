from tests.helper import (SIZES, TOP, Refusing, answers_to, area, between, border, cell, mean, mixed_cells,
                          mixed_picture, now, picture, rows_of, told, told_area, told_fraction,
                          turn, undo)

SIX = picture(3, 2, [1, 2, 3, 4, 5, 6])
HALVES = [picture(2, 1, [1, 2]), area(3, 1)]


class Now(Refusing):
    def test_the_first_picture(self):
        self.assertEqual(answers_to(now()), [[1, 1, 1, 0]])

    def test_row_by_row(self):
        self.assertEqual(answers_to(SIX, now())[1], [3, 2, 1, 1, 2, 3, 4, 5, 6])
        self.assertEqual(answers_to(SIX, turn(1), now())[2], [2, 3, 1, 4, 1, 5, 2, 6, 3])

    def test_d_ths(self):
        self.assertEqual(answers_to(*HALVES, now())[2], [3, 1, 2, 2, 3, 4])

    def test_the_largest_picture(self):
        self.assertEqual(answers_to(picture(12, 12, [65535] * 144), now())[1], [12, 12, 1] + [65535] * 144)

    def test_every_size(self):
        for w in range(1, 13):
            for h in range(1, 13):
                self.assertEqual(answers_to(mixed_picture(w, h), now())[1], [w, h, 1] + mixed_cells(w * h))

    def test_it_changes_nothing(self):
        self.assertEqual(answers_to(*HALVES, now(), now(), undo(), now(), undo())[2:],
                         [[3, 1, 2, 2, 3, 4], [3, 1, 2, 2, 3, 4], [2, 1, 1], [2, 1, 1, 1, 2], [-4]])


class Cells(Refusing):
    def test_column_then_row(self):
        self.assertEqual(answers_to(SIX, cell(2, 0), cell(0, 1), cell(1, 1))[1:], [[3, 1, 3], [4, 1, 4], [5, 1, 5]])

    def test_lowest_terms_where_d_is_not_its_own_lower_number(self):
        quarters = [picture(4, 1, [1, 0, 1, 0]), area(3, 1)]
        self.assertEqual(answers_to(*quarters, now(), cell(0, 0), cell(1, 0), cell(2, 0))[2:],
                         [[3, 1, 4, 3, 2, 1], [3, 4, 1], [1, 2, 1], [1, 4, 0]])
        ninths = [picture(2, 1, [0, 2]), between(9, 1)]
        self.assertEqual(answers_to(*ninths, now(), *[cell(x, 0) for x in range(1, 9)])[2:],
                         [[9, 1, 9, 0, 0, 1, 5, 9, 13, 17, 18, 18], [0, 1, 0], [1, 9, 0], [5, 9, 1], [1, 1, 1],
                          [13, 9, 1], [17, 9, 2], [2, 1, 2], [2, 1, 2]])

    def test_a_cell_of_0(self):
        self.assertEqual(answers_to(cell(0, 0)), [[0, 1, 0]])
        self.assertEqual(answers_to(*HALVES, border(1, 0, 0, 0, 0), cell(0, 0))[3], [0, 1, 0])

    def test_the_nearest_of_two_as_near_is_the_greater(self):
        self.assertEqual(answers_to(*HALVES, cell(1, 0))[2], [3, 2, 2])
        self.assertEqual(answers_to(picture(2, 1, [0, 1]), area(1, 1), cell(0, 0))[2], [1, 2, 1])
        self.assertEqual(answers_to(picture(2, 1, [65534, 65535]), area(1, 1), cell(0, 0))[2], [131069, 2, 65535])

    def test_every_cell(self):
        for u, v in SIZES:
            rows = told_area(rows_of(u, v, mixed_cells(u * v)), 7, 5)
            for y in range(5):
                found = answers_to(mixed_picture(u, v), area(7, 5), *[cell(x, y) for x in range(7)])[2:]
                self.assertEqual(found, [told_fraction(one) for one in rows[y]])

    def test_the_last_column_and_row_and_past_them(self):
        self.assertEqual(answers_to(SIX, cell(2, 1))[1], [6, 1, 6])
        self.assertEqual(answers_to(mixed_picture(12, 12), cell(11, 11))[1][:2], [mixed_cells(144)[143], 1])
        for x, y in [(3, 0), (0, 2), (3, 1), (2, 2), (3, 2), (TOP, 0), (0, TOP), (TOP, TOP)]:
            self.assert_refused([SIX, turn(0)], cell(x, y), -1)
        for x, y in [(12, 0), (0, 12), (12, 12), (12, 11), (11, 12)]:
            self.assert_refused([mixed_picture(12, 12)], cell(x, y), -1)
        self.assertEqual(answers_to(cell(1, 0), cell(0, 1), cell(0, 0)), [[-1], [-1], [0, 1, 0]])

    def test_columns_and_rows_are_not_mistaken(self):
        self.assertEqual(answers_to(picture(1, 3, [7, 8, 9]), cell(0, 2), cell(2, 0))[1:], [[9, 1, 9], [-1]])
        self.assertEqual(answers_to(picture(3, 1, [7, 8, 9]), cell(0, 2), cell(2, 0))[1:], [[-1], [9, 1, 9]])

    def test_it_changes_nothing(self):
        self.assertEqual(answers_to(*HALVES, cell(1, 0), cell(9, 9), cell(0, 0), undo(), undo())[2:],
                         [[3, 2, 2], [-1], [1, 1, 1], [2, 1, 1], [-4]])


class Told(Refusing):
    def test_a_whole_mean(self):
        self.assertEqual(answers_to(picture(3, 1, [1, 2, 6]), told())[1], [3, 1, 3, 1, 3])
        self.assertEqual(answers_to(picture(2, 2, [5, 5, 5, 5]), told())[1], [2, 2, 5, 1, 5])
        self.assertEqual(answers_to(picture(12, 12, [65535] * 144), told())[1], [12, 12, 65535, 1, 65535])

    def test_a_mean_that_is_a_fraction(self):
        self.assertEqual(answers_to(SIX, told())[1], [3, 2, 7, 2, 4])
        self.assertEqual(answers_to(picture(3, 1, [1, 2, 4]), told())[1], [3, 1, 7, 3, 2])
        self.assertEqual(answers_to(picture(1, 3, [1, 2, 5]), told())[1], [1, 3, 8, 3, 3])
        self.assertEqual(answers_to(picture(2, 2, [0, 0, 0, 1]), told())[1], [2, 2, 1, 4, 0])

    def test_of_d_ths(self):
        self.assertEqual(answers_to(*HALVES, told())[2], [3, 1, 3, 2, 2])
        self.assertEqual(answers_to(*HALVES, [6, 0, 0, 2, 1], told())[3], [2, 1, 5, 4, 1])

    def test_all_0(self):
        self.assertEqual(answers_to(told()), [[1, 1, 0, 1, 0]])
        self.assertEqual(answers_to(area(12, 7), told())[1], [12, 7, 0, 1, 0])

    def test_the_nearest_of_two_as_near_is_the_greater(self):
        self.assertEqual(answers_to(picture(2, 1, [65534, 65535]), told())[1], [2, 1, 131069, 2, 65535])
        self.assertEqual(answers_to(picture(12, 12, [1] * 71 + [0] * 73), told())[1], [12, 12, 71, 144, 0])
        self.assertEqual(answers_to(picture(12, 12, [1] * 72 + [0] * 72), told())[1], [12, 12, 1, 2, 1])

    def test_as_the_document_tells(self):
        for w, h in SIZES:
            was = mean(rows_of(w, h, mixed_cells(w * h)))
            self.assertEqual(answers_to(mixed_picture(w, h), told())[1], [w, h] + told_fraction(was))

    def test_a_picture_of_one_cell_is_told_as_its_cell(self):
        calls = [mixed_picture(7, 5), area(1, 1), told(), cell(0, 0)]
        answered = answers_to(*calls)
        self.assertEqual(answered[2], [1, 1] + answered[3])

    def test_it_changes_nothing(self):
        self.assertEqual(answers_to(*HALVES, told(), told(), undo(), undo())[2:],
                         [[3, 1, 3, 2, 2], [3, 1, 3, 2, 2], [2, 1, 1], [-4]])
