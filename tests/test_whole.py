"""What the document says over the whole program, seen through now, cell and told; and long lists of all calls."""

import unittest
from fractions import Fraction

from tests.helper import (SIZES, TOP, answers_to, area, between, border, cell, cut, flat, fractions_of, lean, mirror,
                          mixed_picture, nearest, now, picture, rounded, shown_by, told, told_answers, told_nearest_whole,
                          turn, undo)

DRAWN = [[mixed_picture(u, v)] for u, v in SIZES] + [[mixed_picture(5, 7), area(u, v)] for u, v in SIZES]


def now_of(calls):
    return answers_to(*calls, now())[-1]


def told_of(calls):
    return answers_to(*calls, told())[-1]


def cells_of(calls):
    """Every cell of the picture behind these calls, as cell answers it."""
    w, h = told_of(calls)[:2]
    return [answers_to(*calls, cell(x, y))[-1] for y in range(h) for x in range(w)]


class NowCellAndTold(unittest.TestCase):
    def test_they_tell_of_the_same_picture(self):
        for calls in DRAWN + [[], [mixed_picture(3, 4), between(5, 3), border(1, 0, 1, 1, 7), lean(3)]]:
            numbers = flat(fractions_of(shown_by(now_of(calls))))
            cells = cells_of(calls)
            self.assertEqual(numbers, [Fraction(upper, lower) for upper, lower, nearest_one in cells])
            self.assertEqual([told_nearest_whole(one) for one in numbers], [one[2] for one in cells])
            mean = sum(numbers) / len(numbers)
            self.assertEqual(told_of(calls)[2:], [mean.numerator, mean.denominator, told_nearest_whole(mean)])

    def test_rounded_makes_of_each_cell_what_cell_calls_the_nearest(self):
        for calls in DRAWN:
            self.assertEqual(now_of(calls + [rounded()])[3:], [one[2] for one in cells_of(calls)])

    def test_one_cell_by_areas_is_the_mean(self):
        for calls in DRAWN:
            self.assertEqual(cells_of(calls + [area(1, 1)]), [told_of(calls)[2:]])


class TheMeanStays(unittest.TestCase):
    def test_by_areas(self):
        for calls in DRAWN:
            for w, h in SIZES:
                self.assertEqual(told_of(calls + [area(w, h)]), [w, h] + told_of(calls)[2:])

    def test_turned_mirrored_and_leaned(self):
        for calls in DRAWN:
            for change in [turn(1), turn(2), turn(3), mirror(0), mirror(1), lean(1), lean(5), lean(11)]:
                self.assertEqual(told_of(calls + [change])[2:], told_of(calls)[2:])


class ByWayOfAMultiple(unittest.TestCase):
    def test_of_the_old_size(self):
        for u, v, m, n in [(2, 3, 6, 9), (3, 4, 12, 4), (5, 2, 10, 12), (1, 1, 7, 11)]:
            for calls in [[mixed_picture(u, v)], [mixed_picture(3, 5), area(u, v)]]:
                for w, h in SIZES:
                    self.assertEqual(now_of(calls + [area(m, n), area(w, h)]), now_of(calls + [area(w, h)]))

    def test_of_the_new_size(self):
        for w, h, m, n in [(2, 3, 6, 9), (3, 4, 12, 4), (5, 2, 10, 12), (1, 1, 7, 11)]:
            for calls in DRAWN:
                self.assertEqual(now_of(calls + [area(m, n), area(w, h)]), now_of(calls + [area(w, h)]))


class TurnedFirstOrLast(unittest.TestCase):
    def test_by_areas_and_by_what_lies_between(self):
        for change in [area, between]:
            for calls in DRAWN:
                for k in range(4):
                    turned = [turn(k), change(7, 4) if k in (0, 2) else change(4, 7)]
                    self.assertEqual(now_of(calls + turned), now_of(calls + [change(7, 4), turn(k)]))

    def test_by_the_nearest_where_no_middle_is_on_a_border(self):
        for u, v, w, h in [(3, 5, 9, 3), (9, 3, 3, 12), (11, 7, 5, 9), (1, 1, 12, 12), (4, 6, 8, 12)]:
            for k in range(4):
                turned = [turn(k), nearest(w, h) if k in (0, 2) else nearest(h, w)]
                self.assertEqual(now_of([mixed_picture(u, v)] + turned),
                                 now_of([mixed_picture(u, v), nearest(w, h), turn(k)]))

    def test_bordered(self):
        self.assertEqual(now_of([mixed_picture(3, 2), border(1, 2, 3, 4, 9), turn(1)]),
                         now_of([mixed_picture(3, 2), turn(1), border(4, 1, 2, 3, 9)]))

    def test_rounded(self):
        for calls in DRAWN:
            self.assertEqual(now_of(calls + [rounded(), turn(1)]), now_of(calls + [turn(1), rounded()]))


class WhatLiesBetween(unittest.TestCase):
    def test_it_lies_between(self):
        for calls in DRAWN:
            old = flat(fractions_of(shown_by(now_of(calls))))
            for w, h in SIZES:
                new = flat(fractions_of(shown_by(now_of(calls + [between(w, h)]))))
                self.assertLessEqual(min(old), min(new))
                self.assertLessEqual(max(new), max(old))

    def test_between_its_own_two(self):
        for low, high in [(3, 90), (90, 3), (0, 65535)]:
            for w in range(1, 13):
                row = now_of([picture(2, 1, [low, high]), between(w, 1)])
                numbers = [Fraction(one, row[2]) for one in row[3:]]
                self.assertEqual(numbers, sorted(numbers, reverse=low > high))
                self.assertTrue(all(min(low, high) <= one <= max(low, high) for one in numbers))

    def test_cells_all_alike_stay(self):
        self.assertEqual(now_of([picture(5, 3, [77] * 15), between(7, 11)]), [7, 11, 1] + [77] * 77)


class Picking:
    """Numbers that look picked at random and are the same each time."""

    def __init__(self, seed):
        self.state = seed * 7919 + 1

    def below(self, count):
        self.state = (self.state * 6364136223846793005 + 1442695040888963407) % 2 ** 64
        return (self.state >> 33) % count

    def one_of(self, choices):
        return choices[self.below(len(choices))]


def some_size(pick):
    return pick.one_of([1, 2, 3, 4, 5, 6, 8, 12] * 3 + [7, 9, 10, 11, 0, 13, TOP])


def some_picture(pick):
    w, h = some_size(pick), some_size(pick)
    count = min(w * h, 150) if pick.below(9) else pick.below(151)
    most = pick.one_of([2, 10, 65536, 65536, 65536])
    cells = [pick.below(most) for number in range(count)]
    if cells and pick.below(9) == 0:
        cells[pick.below(count)] = pick.one_of([65535, 65536, TOP])
    return picture(w, h, cells)


def some_side(pick):
    return pick.one_of([0, 0, 0, 1, 1, 2, 3] * 3 + [6, 11, 12, TOP])


def some_call(pick):
    number = pick.below(14)
    if number == 0:
        return some_picture(pick)
    if number in (1, 2, 3):
        return [number, some_size(pick), some_size(pick)]
    if number == 4:
        return turn(pick.one_of([0, 1, 2, 3, 1, 2, 3, 4, TOP]))
    if number == 5:
        return mirror(pick.one_of([0, 1, 0, 1, 2, TOP]))
    if number == 6:
        return cut(pick.below(4), pick.below(4), pick.below(8), pick.below(8))
    if number == 7:
        return border(*[some_side(pick) for side in range(4)], pick.one_of([0, 1, 9, 300, 65535, 65536, TOP]))
    if number == 8:
        return lean(pick.one_of(list(range(13)) + [TOP]))
    if number == 12:
        return cell(pick.below(7), pick.below(7))
    return [number]


class LongLists(unittest.TestCase):
    def assert_told(self, calls):
        self.assertLessEqual(len(calls), 40)
        self.assertEqual(answers_to(*calls), told_answers(*calls))

    def test_all_calls_mixed(self):
        refused = set()
        for seed in range(150):
            pick = Picking(seed)
            calls = [some_call(pick) for number in range(1 + pick.below(40))]
            self.assert_told(calls)
            refused.update(answered[0] for answered in answers_to(*calls) if len(answered) == 1)
        self.assertLessEqual({-1, -2, -4}, refused)

    def test_changes_and_undos_with_now_behind_each(self):
        changes = [area(3, 2), area(5, 4), between(4, 3), nearest(6, 5), turn(1), mirror(0), mirror(1), lean(3),
                   border(1, 0, 1, 1, 8), cut(0, 1, 2, 2), cut(1, 0, 3, 2), rounded(), undo(), undo(), undo()]
        for seed in range(40):
            pick = Picking(seed)
            calls = [mixed_picture(1 + pick.below(6), 1 + pick.below(6), seed)]
            for number in range(13):
                calls += [pick.one_of(changes), now(), told()]
            self.assert_told(calls)

    def test_many_changes_then_many_undos(self):
        for seed in range(20):
            pick = Picking(seed)
            calls = [mixed_picture(4, 3, seed)]
            for number in range(20):
                calls.append(pick.one_of([turn(1), turn(3), mirror(0), lean(1), lean(2), rounded(), area(5, 3),
                                          nearest(4, 4), between(3, 4), turn(4), lean(12)]))
            self.assert_told(calls + [undo(), now()] * 9 + [undo()])
            self.assert_told(calls + [undo()] * 18 + [now()])

    def test_a_d_that_grows_till_it_is_refused(self):
        refused = set()
        for seed in range(30):
            pick = Picking(seed)
            calls = [mixed_picture(3, 3, seed)]
            for number in range(19):
                calls += [pick.one_of([area, between])(2 + pick.below(4), 2 + pick.below(4)), now()]
            self.assert_told(calls + [undo()])
            refused.update(answered[0] for answered in answers_to(*calls) if len(answered) == 1)
        self.assertEqual(refused, {-9})


class TheLargestNumbers(unittest.TestCase):
    def test_everywhere(self):
        calls = [picture(TOP, TOP, [TOP] * 150), area(TOP, TOP), nearest(TOP, TOP), between(TOP, TOP), turn(TOP),
                 mirror(TOP), cut(TOP, TOP, TOP, TOP), border(TOP, TOP, TOP, TOP, TOP), lean(TOP), rounded(), undo(), now(),
                 cell(TOP, TOP), told()]
        self.assertEqual(answers_to(*calls), [[-1]] * 4 + [[-2], [-2], [-1], [-1], [-2], [1, 1, 1], [1, 1, 1],
                                              [1, 1, 1, 0], [-1], [1, 1, 0, 1, 0]])

    def test_cells_alone(self):
        self.assertEqual(answers_to(picture(12, 12, [TOP] * 144), now()), [[-2], [1, 1, 1, 0]])
