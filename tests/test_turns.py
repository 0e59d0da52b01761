from fractions import Fraction

from tests.helper import (SIZES, TOP, Refusing, answers_to, area, cut, fractions_behind, mirror, mixed_cells,
                          mixed_picture, picture, rows_of, turn)

SIX = picture(3, 2, [1, 2, 3, 4, 5, 6])


class Turns(Refusing):
    def test_the_left_column_is_the_uppermost_row_its_lowest_cell_first(self):
        self.assertEqual(fractions_behind(SIX, turn(1)), [[4, 1], [5, 2], [6, 3]])

    def test_each_number_of_quarters(self):
        self.assertEqual(fractions_behind(SIX, turn(0)), [[1, 2, 3], [4, 5, 6]])
        self.assertEqual(fractions_behind(SIX, turn(2)), [[6, 5, 4], [3, 2, 1]])
        self.assertEqual(fractions_behind(SIX, turn(3)), [[3, 6], [2, 5], [1, 4]])

    def test_answers(self):
        halves = [picture(2, 1, [1, 2]), area(3, 1)]
        self.assertEqual(answers_to(SIX, turn(0), turn(1), turn(2), turn(3)),
                         [[3, 2], [3, 2, 1], [2, 3, 1], [2, 3, 1], [3, 2, 1]])
        self.assertEqual(answers_to(*halves, turn(1))[1:], [[3, 1, 2], [1, 3, 2]])
        self.assertEqual(fractions_behind(*halves, turn(1)), [[1], [Fraction(3, 2)], [2]])

    def test_k_quarters_are_k_times_one(self):
        for w, h in SIZES:
            drawn = mixed_picture(w, h)
            for k in range(4):
                self.assertEqual(fractions_behind(drawn, turn(k)), fractions_behind(drawn, *[turn(1)] * k))
                self.assertEqual(fractions_behind(drawn, turn(k), turn((4 - k) % 4)), fractions_behind(drawn))

    def test_more_than_3_quarters(self):
        for k in [4, 5, 8, TOP]:
            self.assert_refused([SIX, area(2, 2)], turn(k), -2)
        self.assertEqual(answers_to(turn(4)), [[-2]])


class Mirrors(Refusing):
    def test_columns_and_rows(self):
        self.assertEqual(fractions_behind(SIX, mirror(0)), [[3, 2, 1], [6, 5, 4]])
        self.assertEqual(fractions_behind(SIX, mirror(1)), [[4, 5, 6], [1, 2, 3]])

    def test_answers(self):
        self.assertEqual(answers_to(SIX, mirror(0), mirror(1)), [[3, 2], [3, 2, 1], [3, 2, 1]])
        self.assertEqual(answers_to(SIX, area(2, 1), mirror(0), mirror(1))[1:], [[2, 1, 6]] * 3)

    def test_twice_is_as_it_was_and_both_are_half_a_turn(self):
        for w, h in SIZES:
            drawn = mixed_picture(w, h)
            for k in range(2):
                self.assertEqual(fractions_behind(drawn, mirror(k), mirror(k)), fractions_behind(drawn))
            self.assertEqual(fractions_behind(drawn, mirror(0), mirror(1)), fractions_behind(drawn, turn(2)))

    def test_more_than_1(self):
        for k in [2, 3, TOP]:
            self.assert_refused([SIX, area(2, 2)], mirror(k), -2)
        self.assertEqual(answers_to(mirror(2)), [[-2]])


class Cuts(Refusing):
    def test_every_cut_that_is_there(self):
        rows = rows_of(4, 3, mixed_cells(12))
        for x in range(4):
            for y in range(3):
                for u in range(1, 5 - x):
                    for v in range(1, 4 - y):
                        calls = [mixed_picture(4, 3), cut(x, y, u, v)]
                        self.assertEqual(answers_to(*calls)[1], [u, v, 1])
                        self.assertEqual(fractions_behind(*calls), [row[x:x + u] for row in rows[y:y + v]])

    def test_cuts_that_touch_each_side(self):
        self.assertEqual(fractions_behind(SIX, cut(0, 0, 1, 2)), [[1], [4]])
        self.assertEqual(fractions_behind(SIX, cut(2, 0, 1, 2)), [[3], [6]])
        self.assertEqual(fractions_behind(SIX, cut(0, 0, 3, 1)), [[1, 2, 3]])
        self.assertEqual(fractions_behind(SIX, cut(0, 1, 3, 1)), [[4, 5, 6]])
        self.assertEqual(fractions_behind(SIX, cut(0, 0, 3, 2)), [[1, 2, 3], [4, 5, 6]])

    def test_the_largest_picture(self):
        self.assertEqual(answers_to(mixed_picture(12, 12), cut(0, 0, 12, 12), cut(11, 11, 1, 1))[1:],
                         [[12, 12, 1], [1, 1, 1]])

    def test_no_column_or_no_row(self):
        for numbers in [(0, 0, 0, 1), (0, 0, 1, 0), (0, 0, 0, 0), (2, 1, 0, 1), (2, 1, 1, 0), (3, 0, 0, 1), (0, 2, 1, 0)]:
            self.assert_refused([SIX], cut(*numbers), -1)

    def test_not_all_of_them_are_there(self):
        for numbers in [(0, 0, 4, 1), (0, 0, 1, 3), (1, 0, 3, 1), (0, 1, 1, 2), (3, 0, 1, 1), (0, 2, 1, 1), (2, 1, 2, 1),
                        (2, 1, 1, 2), (0, 0, 4, 3)]:
            self.assert_refused([SIX, turn(0)], cut(*numbers), -1)

    def test_the_largest_numbers(self):
        for place in range(4):
            numbers = [0, 0, 1, 1]
            numbers[place] = TOP
            self.assert_refused([SIX, area(2, 2)], cut(*numbers), -1)
        self.assert_refused([SIX], cut(TOP, TOP, TOP, TOP), -1)
        self.assert_refused([SIX], cut(TOP, 0, 2, 1), -1)
        self.assert_refused([SIX], cut(0, TOP, 1, 2), -1)

    def test_past_the_first_picture(self):
        self.assertEqual(answers_to(cut(0, 0, 1, 1), cut(0, 0, 2, 1), cut(0, 1, 1, 1)), [[1, 1, 1], [-1], [-1]])
