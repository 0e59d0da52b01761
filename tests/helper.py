"""Calls as lists, answers apart, and the calls told once more, in fractions and straight from the document's words."""

from collections import namedtuple
from fractions import Fraction
from math import floor, lcm
from unittest import TestCase

from pictureareas.pictures import answers

TOP = 4294967295
SIZES = [(1, 1), (1, 5), (7, 1), (2, 3), (5, 4), (6, 6), (9, 12), (12, 7), (12, 12)]


def picture(w, h, cells):
    return [0, w, h, len(cells)] + cells


def area(w, h):
    return [1, w, h]


def nearest(w, h):
    return [2, w, h]


def between(w, h):
    return [3, w, h]


def turn(k):
    return [4, k]


def mirror(k):
    return [5, k]


def cut(x, y, u, v):
    return [6, x, y, u, v]


def border(l, t, r, b, f):
    return [7, l, t, r, b, f]


def lean(k):
    return [8, k]


def rounded():
    return [9]


def undo():
    return [10]


def now():
    return [11]


def cell(x, y):
    return [12, x, y]


def told():
    return [13]


def mixed_cells(count, salt=1):
    return [(number * number * 7919 + number * 104729 + salt * 31337) % 65536 for number in range(count)]


def mixed_picture(w, h, salt=1):
    return picture(w, h, mixed_cells(w * h, salt))


def apart(given):
    """The flat list of answers as one list for each call."""
    one_by_one = []
    place = 0
    while place < len(given):
        end = place + 1 + given[place]
        if end > len(given):
            raise AssertionError("the last answer is cut off")
        one_by_one.append(given[place + 1:end])
        place = end
    return one_by_one


def answers_to(*calls):
    return apart(answers(sum(calls, [])))


Shown = namedtuple("Shown", "d rows")


def shown_by(answered):
    """What now answered, as d and rows."""
    w, h, d = answered[:3]
    numbers = answered[3:]
    if len(numbers) != w * h:
        raise AssertionError("now answered another size than it has numbers for")
    return Shown(d, [numbers[y * w:y * w + w] for y in range(h)])


def picture_behind(*calls):
    """The picture behind these calls, as now answers it."""
    return shown_by(answers_to(*calls, now())[-1])


def fractions_of(shown):
    return [[Fraction(number, shown.d) for number in row] for row in shown.rows]


def fractions_behind(*calls):
    """The picture behind these calls, as rows of fractions."""
    return fractions_of(picture_behind(*calls))


def undone(*calls):
    """What is answered when the last four changes of these calls are undone, with now between."""
    return answers_to(*calls, *[now(), undo()] * 4)[-8:]


class Refusing(TestCase):
    def assert_refused(self, before, call, number):
        """The call is refused by this number, and all is as it was, what can be undone too."""
        self.assertEqual(answers_to(*before, call)[-1], [number], call)
        self.assertEqual(undone(*before, call), undone(*before), call)


def rows_of(w, h, cells):
    return [[Fraction(cells[y * w + x]) for x in range(w)] for y in range(h)]


def common_d(rows):
    return lcm(*[one.denominator for one in flat(rows)])


def flat(rows):
    return [one for row in rows for one in row]


def mean(rows):
    return Fraction(sum(flat(rows)), 1) / len(flat(rows))


def told_part(old, new, x, i):
    """The part of new column i that old column x covers."""
    left = max(Fraction(x, old), Fraction(i, new))
    right = min(Fraction(x + 1, old), Fraction(i + 1, new))
    return max(Fraction(0), right - left) * new


def told_area(rows, w, h):
    u, v = len(rows[0]), len(rows)
    return [[sum(told_part(u, w, x, i) * told_part(v, h, y, j) * rows[y][x] for y in range(v) for x in range(u))
             for i in range(w)] for j in range(h)]


def told_nearest_place(old, new, i):
    middle = Fraction(2 * i + 1, 2 * new)
    return [x for x in range(old) if Fraction(x, old) <= middle < Fraction(x + 1, old)][0]


def told_nearest(rows, w, h):
    u, v = len(rows[0]), len(rows)
    return [[rows[told_nearest_place(v, h, j)][told_nearest_place(u, w, i)] for i in range(w)] for j in range(h)]


def told_between_line(line, new, i):
    """What lies between the two old cells of this line round the middle of new cell i."""
    old = len(line)
    at = Fraction(2 * i + 1, 2 * new) * old - Fraction(1, 2)
    if at <= 0:
        return line[0]
    if at >= old - 1:
        return line[old - 1]
    ahead = floor(at)
    return line[ahead] + (line[ahead + 1] - line[ahead]) * (at - ahead)


def told_between(rows, w, h):
    lines = [[told_between_line(row, w, i) for i in range(w)] for row in rows]
    return [[told_between_line([line[i] for line in lines], h, j) for i in range(w)] for j in range(h)]


def told_turn(rows, k):
    if k == 0:
        return rows
    u, v = len(rows[0]), len(rows)
    return told_turn([[rows[v - 1 - y][x] for y in range(v)] for x in range(u)], k - 1)


def told_mirror(rows, k):
    u, v = len(rows[0]), len(rows)
    return [[rows[y][u - 1 - x] if k == 0 else rows[v - 1 - y][x] for x in range(u)] for y in range(v)]


def told_cut(rows, x, y, u, v):
    return [[rows[y + j][x + i] for i in range(u)] for j in range(v)]


def told_border(rows, l, t, r, b, f):
    u, v = len(rows[0]), len(rows)
    return [[rows[y][x] if 0 <= x < u and 0 <= y < v else Fraction(f) for x in range(-l, u + r)]
            for y in range(-t, v + b)]


def told_lean(rows, k):
    w = len(rows[0])
    new = [[None] * w for row in rows]
    for y, row in enumerate(rows):
        for x, one in enumerate(row):
            new[y][(x + k * y) % w] = one
    return new


def told_nearest_whole(number):
    below = floor(number)
    return below if number - below < below + 1 - number else below + 1


def told_rounded(rows):
    return [[Fraction(told_nearest_whole(one)) for one in row] for row in rows]


CHANGES = {1: told_area, 2: told_nearest, 3: told_between, 4: told_turn, 5: told_mirror, 6: told_cut, 7: told_border,
           8: told_lean, 9: told_rounded}


def told_refusal(rows, undoable, call):
    """The refusal that the document tells first, but for -9; None if there is none."""
    w, h = len(rows[0]), len(rows)
    number, given = call[0], call[1:]
    fits = {0: [(-1, lambda: given[0] not in range(1, 13) or given[1] not in range(1, 13)
                 or len(given[3:]) != given[0] * given[1]),
                (-2, lambda: any(one > 65535 for one in given[3:]))],
            4: [(-2, lambda: given[0] > 3)],
            5: [(-2, lambda: given[0] > 1)],
            6: [(-1, lambda: 0 in given[2:] or given[0] + given[2] > w or given[1] + given[3] > h)],
            7: [(-1, lambda: given[0] + w + given[2] > 12 or given[1] + h + given[3] > 12),
                (-2, lambda: given[4] > 65535)],
            8: [(-2, lambda: given[0] > 11)],
            10: [(-4, lambda: undoable == 0)],
            12: [(-1, lambda: given[0] >= w or given[1] >= h)]}
    fits[1] = fits[2] = fits[3] = [(-1, lambda: given[0] not in range(1, 13) or given[1] not in range(1, 13))]
    return next((refused for refused, fit in fits.get(number, []) if fit()), None)


def told_fraction(number):
    return [number.numerator, number.denominator, told_nearest_whole(number)]


def told_answers(*calls):
    """What the document asks to be answered to these calls; all that was is kept, and how much of it can be undone."""
    past, undoable = [[[Fraction(0)]]], 0
    given = []
    for call in calls:
        rows = past[-1]
        number, numbers = call[0], call[1:]
        size = [len(rows[0]), len(rows)]
        refused = told_refusal(rows, undoable, call)
        if refused is not None:
            given.append([refused])
        elif number == 0:
            past, undoable = [rows_of(numbers[0], numbers[1], numbers[3:])], 0
            given.append(numbers[:2])
        elif number == 10:
            past, undoable = past[:-1], undoable - 1
            given.append([len(past[-1][0]), len(past[-1]), common_d(past[-1])])
        elif number == 11:
            given.append(size + [common_d(rows)] + [int(one * common_d(rows)) for one in flat(rows)])
        elif number == 12:
            given.append(told_fraction(rows[numbers[1]][numbers[0]]))
        elif number == 13:
            given.append(size + told_fraction(mean(rows)))
        else:
            new = CHANGES[number](rows, *numbers)
            if common_d(new) >= 2 ** 32:
                given.append([-9])
            else:
                past, undoable = past + [new], min(16, undoable + 1)
                given.append([len(new[0]), len(new), common_d(new)])
    return given
