from tests.helper import (TOP, Refusing, answers_to, area, between, border, cell, cut, fractions_behind, lean, mirror,
                          mixed_picture, nearest, now, picture, picture_behind, rounded, told, turn, undo)

FOUR = picture(2, 2, [1, 2, 3, 4])
FOUR_NOW = [2, 2, 1, 1, 2, 3, 4]
CHANGES = [area(3, 3), nearest(3, 1), between(4, 4), turn(1), mirror(0), mirror(1), cut(1, 0, 1, 2),
           border(1, 2, 3, 4, 5), lean(1), rounded()]
THAT_LEAVE_ALL = [area(2, 2), nearest(2, 2), between(2, 2), turn(0), cut(0, 0, 2, 2), border(0, 0, 0, 0, 5), lean(0),
                  lean(2), rounded()]
REFUSED = [picture(2, 2, [1, 2, 3]), picture(13, 1, [1] * 13), picture(1, 1, [65536]), area(13, 1), nearest(0, 1),
           between(1, 0), turn(4), mirror(2), cut(0, 0, 0, 1), border(12, 0, 0, 0, 1), border(0, 0, 0, 0, 65536),
           lean(12), cell(12, 12)]


def wider(count):
    """So many changes, one column more with each."""
    return [border(1, 0, 0, 0, number + 1) for number in range(count)]


def quarters(count):
    return [turn(1)] * count


class Undos(Refusing):
    def test_behind_each_kind_of_change(self):
        for change in CHANGES:
            self.assertEqual(answers_to(FOUR, change, undo(), now(), undo())[2:], [[2, 2, 1], FOUR_NOW, [-4]], change)

    def test_behind_each_kind_of_change_of_d_ths(self):
        before = [picture(3, 2, [1, 2, 3, 4, 5, 7]), area(2, 2)]
        was = answers_to(*before, now())[1:]
        for change in CHANGES:
            self.assertEqual(answers_to(*before, change, undo(), now())[3:], was, change)

    def test_behind_one_that_leaves_the_picture_as_it_was(self):
        for change in THAT_LEAVE_ALL:
            self.assertEqual(answers_to(FOUR, change, now(), undo(), now(), undo())[1:],
                             [[2, 2, 1], FOUR_NOW, [2, 2, 1], FOUR_NOW, [-4]], change)
            self.assertEqual(answers_to(FOUR, mirror(0), change, undo(), now(), undo(), now(), undo())[4:],
                             [[2, 2, 1, 2, 1, 4, 3], [2, 2, 1], FOUR_NOW, [-4]], change)

    def test_columns_rows_and_d_are_answered(self):
        calls = [picture(3, 1, [1, 2, 4]), area(2, 1), border(0, 1, 0, 0, 0), rounded(), undo(), undo(), undo(), undo()]
        self.assertEqual(answers_to(*calls)[1:],
                         [[2, 1, 3], [2, 2, 3], [2, 2, 1], [2, 2, 3], [2, 1, 3], [3, 1, 1], [-4]])

    def test_several_one_behind_another(self):
        calls = [FOUR] + CHANGES
        for count in range(len(CHANGES) + 1):
            self.assertEqual(picture_behind(*calls, *[undo()] * count),
                             picture_behind(*calls[:len(calls) - count]), count)
        self.assertEqual(answers_to(*calls, *[undo()] * (len(CHANGES) + 1))[-2:], [[2, 2, 1], [-4]])

    def test_then_a_change_then_undone_again(self):
        calls = [FOUR, mirror(0), border(1, 0, 0, 0, 9), undo(), turn(1), now(), undo(), now(), undo(), now(), undo()]
        self.assertEqual(answers_to(*calls)[3:],
                         [[2, 2, 1], [2, 2, 1], [2, 2, 1, 4, 2, 3, 1], [2, 2, 1], [2, 2, 1, 2, 1, 4, 3], [2, 2, 1],
                          FOUR_NOW, [-4]])

    def test_an_undo_is_not_undone(self):
        calls = [FOUR, mirror(0), mirror(1), undo(), undo(), now(), undo(), now()]
        self.assertEqual(answers_to(*calls)[-3:], [FOUR_NOW, [-4], FOUR_NOW])

    def test_now_cell_and_told_are_no_changes(self):
        calls = [FOUR, mirror(0), now(), cell(0, 0), told(), cell(5, 5), undo(), now(), undo()]
        self.assertEqual(answers_to(*calls)[-3:], [[2, 2, 1], FOUR_NOW, [-4]])

    def test_what_was_is_as_it_was(self):
        # Each picture behind which something was changed is shown again, whole.
        before = [mixed_picture(5, 4), area(3, 3), lean(2), border(1, 1, 1, 1, 3), between(4, 2)]
        shown = [fractions_behind(*before[:count]) for count in range(1, 6)]
        for count in range(5):
            self.assertEqual(fractions_behind(*before, *[undo()] * count), shown[4 - count])


class SixteenChanges(Refusing):
    def test_16_changes_are_undone(self):
        given = answers_to(FOUR, *quarters(16), *[undo()] * 17)
        self.assertEqual(given[17:], [[2, 2, 1]] * 16 + [[-4]])

    def test_the_17th_is_not(self):
        before = [FOUR, mirror(0)] + [border(1, 0, 0, 0, 7)] + quarters(15)
        self.assertEqual(answers_to(*before, *[undo()] * 16, now(), undo(), now())[-4:],
                         [[2, 2, 1], [2, 2, 1, 2, 1, 4, 3], [-4], [2, 2, 1, 2, 1, 4, 3]])

    def test_how_many_are_undone_behind_so_many_changes(self):
        for count in range(20):
            undos = min(count, 16)
            given = answers_to(FOUR, *quarters(count), *[undo()] * undos, now(), undo())
            self.assertEqual(given[1 + count:-2], [[2, 2, 1]] * undos)
            self.assertEqual(given[-1], [-4])
            self.assertEqual(given[-2], answers_to(FOUR, *quarters(count - undos), now())[-1])

    def test_each_of_the_16_is_the_right_one(self):
        # Widths go from 2 to 12, then the cut begins again: so neighbours differ, and the last 16 are 17 pictures.
        changes = wider(10) + [cut(3, 0, 2, 2)] + wider(8)
        pictures = [picture_behind(FOUR, *changes[:count]) for count in range(20)]
        for count in range(17):
            self.assertEqual(picture_behind(FOUR, *changes, *[undo()] * count), pictures[19 - count])
        self.assertEqual(picture_behind(FOUR, *changes, *[undo()] * 17), pictures[3])

    def test_what_is_undone_makes_no_room_for_what_is_forgotten(self):
        calls = [FOUR, mirror(0)] + quarters(16) + [undo(), lean(1)] + [undo()] * 16
        self.assertEqual(answers_to(*calls, now(), undo())[-2:], [[2, 2, 1, 2, 1, 4, 3], [-4]])

    def test_undone_changes_do_not_count(self):
        # More than 16 changes in all, but never more than 2 at a time that aren't undone.
        calls = [FOUR, mirror(0)] + [turn(1), undo()] * 17
        self.assertEqual(answers_to(*calls, undo(), now(), undo())[-3:], [[2, 2, 1], FOUR_NOW, [-4]])

    def test_refused_changes_take_no_room(self):
        for refused in REFUSED:
            calls = [FOUR, mirror(0)] + quarters(15) + [refused, undo(), refused] + [undo()] * 15
            self.assertEqual(answers_to(*calls, refused, now(), undo())[-2:], [FOUR_NOW, [-4]], refused)


class NothingToBeUndone(Refusing):
    def test_at_the_beginning(self):
        self.assertEqual(answers_to(undo()), [[-4]])
        self.assertEqual(answers_to(*[undo()] * 40), [[-4]] * 40)
        self.assertEqual(answers_to(undo(), now(), turn(0), undo(), undo()),
                         [[-4], [1, 1, 1, 0], [1, 1, 1], [1, 1, 1], [-4]])

    def test_changes_of_the_first_picture_are_undone(self):
        self.assertEqual(answers_to(border(1, 0, 0, 0, 5), undo(), now(), undo()), [[2, 1, 1], [1, 1, 1], [1, 1, 1, 0], [-4]])

    def test_behind_picture(self):
        self.assert_refused([FOUR], undo(), -4)
        self.assert_refused([mirror(0), turn(1), FOUR], undo(), -4)
        self.assert_refused([mixed_picture(3, 3)] + quarters(20) + [FOUR], undo(), -4)

    def test_a_picture_is_not_undone_by_the_undo_behind_its_change(self):
        self.assertEqual(answers_to(picture(1, 1, [8]), turn(0), FOUR, mirror(0), undo(), now(), undo(), now())[4:],
                         [[2, 2, 1], FOUR_NOW, [-4], FOUR_NOW])

    def test_a_refused_picture_leaves_what_can_be_undone(self):
        for refused in REFUSED[:3] + [picture(TOP, TOP, [TOP])]:
            calls = [FOUR, mirror(0), turn(1), refused, undo(), now(), refused, undo(), now(), refused, undo()]
            self.assertEqual([answered for answered in answers_to(*calls)[4:] if answered not in ([-1], [-2])],
                             [[2, 2, 1], [2, 2, 1, 2, 1, 4, 3], [2, 2, 1], FOUR_NOW, [-4]])

    def test_a_refused_change_is_none_that_can_be_undone(self):
        for refused in REFUSED:
            self.assertEqual(answers_to(FOUR, refused, undo(), now())[2:], [[-4], FOUR_NOW], refused)
            self.assertEqual(answers_to(FOUR, mirror(0), refused, undo(), now(), undo())[3:],
                             [[2, 2, 1], FOUR_NOW, [-4]], refused)

    def test_a_change_refused_for_its_d_is_none_either(self):
        before = [picture(1, 1, [1])] + [border(7, 7, 0, 0, 0), area(1, 1)] * 5 + [border(3, 0, 0, 0, 0)]
        given = answers_to(*before, area(1, 1), undo(), undo(), now())
        self.assertEqual(given[-4:], [[-9], [1, 1, 2 ** 30], [8, 8, 2 ** 24], [8, 8, 2 ** 24] + [0] * 63 + [1]])
