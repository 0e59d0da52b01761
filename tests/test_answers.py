import contextlib
import io
import unittest

from pictureareas.pictures import answers
from tests.helper import (answers_to, area, between, border, cell, cut, lean, mirror, mixed_picture, nearest, now, picture,
                          rounded, told, turn, undo)


class ListOfAnswers(unittest.TestCase):
    def test_counts_stand_ahead_of_the_numbers(self):
        self.assertEqual(answers([0, 2, 1, 2, 3, 4]), [2, 2, 1])
        self.assertEqual(answers([1, 2, 3]), [3, 2, 3, 1])
        self.assertEqual(answers([2, 2, 3]), [3, 2, 3, 1])
        self.assertEqual(answers([3, 2, 3]), [3, 2, 3, 1])
        self.assertEqual(answers([4, 1]), [3, 1, 1, 1])
        self.assertEqual(answers([5, 0]), [3, 1, 1, 1])
        self.assertEqual(answers([6, 0, 0, 1, 1]), [3, 1, 1, 1])
        self.assertEqual(answers([7, 1, 1, 1, 1, 9]), [3, 3, 3, 1])
        self.assertEqual(answers([8, 11]), [3, 1, 1, 1])
        self.assertEqual(answers([9]), [3, 1, 1, 1])
        self.assertEqual(answers([9, 10]), [3, 1, 1, 1, 3, 1, 1, 1])
        self.assertEqual(answers([11]), [4, 1, 1, 1, 0])
        self.assertEqual(answers([12, 0, 0]), [3, 0, 1, 0])
        self.assertEqual(answers([13]), [5, 1, 1, 0, 1, 0])

    def test_a_refusal_stands_alone(self):
        self.assertEqual(answers([0, 2, 1, 0]), [1, -1])
        self.assertEqual(answers([0, 1, 1, 1, 65536, 4, 4, 5, 2, 1, 13, 1]), [1, -2, 1, -2, 1, -2, 1, -1])
        self.assertEqual(answers([7, 12, 0, 0, 0, 1, 7, 0, 0, 0, 0, 65536, 8, 12, 10, 12, 1, 0]),
                         [1, -1, 1, -2, 1, -2, 1, -4, 1, -1])

    def test_several_calls(self):
        self.assertEqual(answers([0, 2, 1, 2, 3, 4, 1, 1, 1, 4, 9, 3, 2, 5, 6, 1, 4, 1, 1]),
                         [2, 2, 1, 3, 1, 1, 2, 1, -2, 3, 2, 5, 2, 3, 1, 1, 2])
        self.assertEqual(answers([0, 2, 1, 2, 3, 4, 1, 1, 1, 7, 0, 1, 0, 0, 2, 8, 3, 11, 13, 12, 0, 1, 9, 10, 11]),
                         [2, 2, 1, 3, 1, 1, 2, 3, 1, 2, 2, 3, 1, 2, 2, 5, 1, 2, 2, 4, 7, 5, 1, 2, 11, 4, 3, 3, 7, 2, 4,
                          3, 1, 2, 1, 3, 1, 2, 2, 5, 1, 2, 2, 4, 7])

    def test_whole_numbers_are_ints(self):
        given = answers(mixed_picture(5, 3) + area(4, 4) + turn(7) + between(3, 3) + nearest(2, 2) + border(1, 1, 1, 1, 3)
                        + lean(2) + now() + cell(1, 1) + told() + rounded() + undo() + cell(9, 9))
        self.assertIs(list, type(given))
        self.assertEqual({int}, {type(number) for number in given})

    def test_40_calls(self):
        calls = [mixed_picture(12, 12)] + [turn(1), mirror(0), nearest(12, 11), turn(4), cut(0, 0, 9, 9), area(9, 9),
                                           between(9, 9), nearest(12, 12), mirror(2), turn(3), cut(0, 0, 12, 12),
                                           area(12, 12), mirror(1)] * 3
        self.assertEqual(len(calls), 40)
        one_round = [[12, 12, 1], [12, 12, 1], [12, 11, 1], [-2], [9, 9, 1], [9, 9, 1], [9, 9, 1], [12, 12, 1], [-2],
                     [12, 12, 1], [12, 12, 1], [12, 12, 1], [12, 12, 1]]
        self.assertEqual(answers_to(*calls), [[12, 12]] + one_round * 3)

    def test_40_pictures(self):
        self.assertEqual(answers_to(*[mixed_picture(12, 12)] * 40), [[12, 12]] * 40)
        self.assertEqual(answers_to(*[picture(12, 12, [1] * 150)] * 40), [[-1]] * 40)


    def test_40_times_each_call(self):
        for call, answered in [(now(), [1, 1, 1, 0]), (told(), [1, 1, 0, 1, 0]), (cell(0, 0), [0, 1, 0]), (undo(), [-4]),
                               (rounded(), [1, 1, 1]), (lean(5), [1, 1, 1]), (border(0, 0, 0, 0, 0), [1, 1, 1]),
                               (cut(0, 0, 1, 1), [1, 1, 1]), (area(1, 1), [1, 1, 1]), (lean(12), [-2])]:
            self.assertEqual(answers_to(call), [answered])
            self.assertEqual(answers_to(*[call] * 40), [answered] * 40)

    def test_40_calls_with_the_most_answers(self):
        given = answers(mixed_picture(12, 12) + now() * 39)
        self.assertEqual(len(given), 3 + 39 * 148)


class Unchangeable(list):
    """A list that can be read alone: what changes it, be it for a while, fails."""

    def refuse(self, *given):
        raise AssertionError("the list handed in is changed")

    append = extend = insert = pop = remove = clear = reverse = sort = refuse
    __setitem__ = __delitem__ = __iadd__ = __imul__ = refuse


class WhatIsHandedIn(unittest.TestCase):
    def calls(self):
        return (mixed_picture(7, 5) + turn(1) + mirror(0) + mirror(1) + area(4, 3) + between(5, 5) + nearest(3, 7)
                + cut(1, 1, 2, 2) + picture(2, 2, [1]) + turn(9) + mixed_picture(3, 3) + turn(0)
                + area(2, 2) + border(1, 0, 2, 1, 77) + lean(3) + now() + cell(1, 1) + cell(7, 7) + told()
                + rounded() + now() + undo() + undo() + now() + border(12, 0, 0, 0, 1) + undo() + told())

    def test_it_stays_as_it_was(self):
        calls = self.calls()
        answers(calls)
        self.assertEqual(calls, self.calls())

    def test_it_is_not_changed_for_a_while_either(self):
        self.assertEqual(answers(Unchangeable(self.calls())), answers(self.calls()))

    def test_what_is_given_back_is_new_each_time(self):
        given = answers(self.calls())
        given.clear()
        self.assertNotEqual(answers(self.calls()), [])

    def test_nothing_is_kept(self):
        first = answers(self.calls())
        self.assertEqual(answers(turn(0)), [3, 1, 1, 1])
        self.assertEqual(answers(now() + undo() + told()), [4, 1, 1, 1, 0, 1, -4, 5, 1, 1, 0, 1, 0])
        self.assertEqual(answers(self.calls()), first)

    def test_the_same_list_a_second_time(self):
        calls = self.calls()
        self.assertEqual(answers(calls), answers(calls))

    def test_nothing_is_printed(self):
        printed = io.StringIO()
        with contextlib.redirect_stdout(printed), contextlib.redirect_stderr(printed):
            answers(self.calls())
        self.assertEqual(printed.getvalue(), "")
