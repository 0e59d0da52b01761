"""Calls as lists, answers apart, and the changes told once more, in fractions and straight from the document's words."""

from fractions import Fraction
from math import floor

from pictureareas.pictures import Desk, answers, answers_at

TOP = 4294967295
SIZES = [(1, 1), (1, 5), (7, 1), (2, 3), (5, 4), (6, 6), (9, 12), (12, 7), (12, 12)]


def picture(w, h, cells):
    return [0, w, h, len(cells)] + cells


def area(w, h):
    return [1, w, h]


def nearest(w, h):
    return [2, w, h]


def between(w, h):
    return [3, w, h]


def turn(k):
    return [4, k]


def mirror(k):
    return [5, k]


def cut(x, y, u, v):
    return [6, x, y, u, v]


def mixed_cells(count, salt=1):
    return [(number * number * 7919 + number * 104729 + salt * 31337) % 65536 for number in range(count)]


def mixed_picture(w, h, salt=1):
    return picture(w, h, mixed_cells(w * h, salt))


def apart(given):
    """The flat list of answers as one list for each call."""
    one_by_one = []
    place = 0
    while place < len(given):
        end = place + 1 + given[place]
        if end > len(given):
            raise AssertionError("the last answer is cut off")
        one_by_one.append(given[place + 1:end])
        place = end
    return one_by_one


def answers_to(*calls):
    return apart(answers(sum(calls, [])))


def fractions_behind(*calls):
    """The picture behind these calls, as rows of fractions."""
    shown = picture_behind(*calls)
    return [[Fraction(cell, shown.d) for cell in row] for row in shown.rows]


def picture_behind(*calls):
    desk = Desk()
    answers_at(desk, sum(calls, []))
    return desk.picture


def rows_of(w, h, cells):
    return [[Fraction(cells[y * w + x]) for x in range(w)] for y in range(h)]


def common_d(rows):
    d = 1
    while any((cell * d).denominator != 1 for row in rows for cell in row):
        d += 1
    return d


def flat(rows):
    return [cell for row in rows for cell in row]


def mean(rows):
    return Fraction(sum(flat(rows)), 1) / len(flat(rows))


def told_part(old, new, x, i):
    """The part of new column i that old column x covers."""
    left = max(Fraction(x, old), Fraction(i, new))
    right = min(Fraction(x + 1, old), Fraction(i + 1, new))
    return max(Fraction(0), right - left) * new


def told_area(rows, w, h):
    u, v = len(rows[0]), len(rows)
    return [[sum(told_part(u, w, x, i) * told_part(v, h, y, j) * rows[y][x] for y in range(v) for x in range(u))
             for i in range(w)] for j in range(h)]


def told_nearest_place(old, new, i):
    middle = Fraction(2 * i + 1, 2 * new)
    return [x for x in range(old) if Fraction(x, old) <= middle < Fraction(x + 1, old)][0]


def told_nearest(rows, w, h):
    u, v = len(rows[0]), len(rows)
    return [[rows[told_nearest_place(v, h, j)][told_nearest_place(u, w, i)] for i in range(w)] for j in range(h)]


def told_between_line(line, new, i):
    """What lies between the two old cells of this line round the middle of new cell i."""
    old = len(line)
    at = Fraction(2 * i + 1, 2 * new) * old - Fraction(1, 2)
    if at <= 0:
        return line[0]
    if at >= old - 1:
        return line[old - 1]
    ahead = floor(at)
    return line[ahead] + (line[ahead + 1] - line[ahead]) * (at - ahead)


def told_between(rows, w, h):
    lines = [[told_between_line(row, w, i) for i in range(w)] for row in rows]
    return [[told_between_line([line[i] for line in lines], h, j) for i in range(w)] for j in range(h)]
