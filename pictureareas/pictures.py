"""The calls about one picture: it is drawn, changed, undone and told of."""

PICTURE = 0
AREA = 1
NEAREST = 2
BETWEEN = 3
TURN = 4
MIRROR = 5
CUT = 6
BORDER = 7
LEAN = 8
ROUNDED = 9
UNDO = 10
NOW = 11
CELL = 12
TOLD = 13

# How many numbers stand behind each call's number; picture's cells come behind its three.
NUMBER_COUNTS = (3, 2, 2, 2, 1, 1, 4, 5, 1, 0, 0, 0, 2, 0)

MOST_IN_A_LINE = 12
MOST_IN_A_CELL = 65535
MOST_TURNS = 3
MOST_MIRRORS = 1
MOST_LEANS = 11
MOST_UNDONE = 16
FIRST_D_REFUSED = 4294967296

GRANTED = 0
NOT_THERE = -1
TOO_LARGE = -2
NOTHING_TO_UNDO = -4
D_TOO_LARGE = -9


class Picture:
    """Rows of cells, from above; each cell is a number of d-ths. Nothing in it is changed once it is made."""

    def __init__(self, d, rows):
        self.d = d
        self.rows = rows

    def width(self):
        return len(self.rows[0])

    def height(self):
        return len(self.rows)


class Desk:
    """What is kept from one call to the next: the picture, and what it was ahead of each change that can be undone."""

    def __init__(self):
        self.picture = Picture(1, [[0]])
        self.earlier = []

    def begin(self, fresh):
        self.picture = fresh
        self.earlier = []

    def change(self, fresh):
        self.earlier.append(self.picture)
        if len(self.earlier) > MOST_UNDONE:
            self.earlier.pop(0)
        self.picture = fresh

    def undo(self):
        self.picture = self.earlier.pop()


def common_divisor(first, second):
    while second != 0:
        rest = first % second
        first = second
        second = rest
    return first


def nearest_whole(upper, lower):
    # A half more and then down: so of two as near, the greater is taken.
    return (2 * upper + lower) // (2 * lower)


def divided(row, divisor):
    return [cell // divisor for cell in row]


def in_lowest_terms(d, rows):
    divisor = d
    for row in rows:
        for cell in row:
            divisor = common_divisor(divisor, cell)
    return Picture(d // divisor, [divided(row, divisor) for row in rows])


def column(rows, x):
    return [row[x] for row in rows]


def columns(rows):
    return [column(rows, x) for x in range(len(rows[0]))]


def backwards(row):
    return list(reversed(row))


# The weights of a new column (or row): one for each old column, telling how much of the old one is in the new one.
# They are whole numbers, so each way has a sum of its own, the same for all new columns: d is multiplied by it.


def area_weights(old, new, place):
    # The whole width is old * new steps: so an old column is new steps wide, and a new one old steps.
    start = place * old
    end = start + old
    return [max(0, min(end, x * new + new) - max(start, x * new)) for x in range(old)]


def nearest_weights(old, new, place):
    # Rounding down takes the column behind the border when the middle lies on one.
    nearest = (2 * place + 1) * old // (2 * new)
    return [1 if x == nearest else 0 for x in range(old)]


def between_weights(old, new, place):
    # Counted from the first old middle, in steps of which there are 2 * new from one old middle to the one behind it.
    step = 2 * new
    middle = (2 * place + 1) * old - new
    inside = min(max(middle, 0), step * (old - 1))
    return [max(0, step - abs(inside - step * x)) for x in range(old)]


def weights_of_one(call, old, new, place):
    if call == AREA:
        return area_weights(old, new, place)
    if call == NEAREST:
        return nearest_weights(old, new, place)
    return between_weights(old, new, place)


def weights_of_all(call, old, new):
    return [weights_of_one(call, old, new, place) for place in range(new)]


def weighed(row, weights):
    return sum([cell * weight for cell, weight in zip(row, weights)])


def row_resized(row, all_weights):
    return [weighed(row, weights) for weights in all_weights]


def rows_resized(rows, all_weights):
    return [row_resized(row, all_weights) for row in rows]


def resized(picture, call, w, h):
    across = weights_of_all(call, picture.width(), w)
    down = weights_of_all(call, picture.height(), h)
    widened = rows_resized(picture.rows, across)
    rows = columns(rows_resized(columns(widened), down))
    return in_lowest_terms(picture.d * sum(across[0]) * sum(down[0]), rows)


def turned(picture, k):
    rows = picture.rows
    for quarter in range(k):
        rows = [backwards(one) for one in columns(rows)]
    return Picture(picture.d, rows)


def mirrored(picture, k):
    if k == 0:
        return Picture(picture.d, [backwards(row) for row in picture.rows])
    return Picture(picture.d, backwards(picture.rows))


def cut_out(picture, x, y, u, v):
    return in_lowest_terms(picture.d, [row[x:x + u] for row in picture.rows[y:y + v]])


def lines_of(cell, width, height):
    return [[cell] * width for y in range(height)]


def bordered(picture, left, above, right, below, f):
    # f is whole and the cells are d-ths; as all that is added is a multiple of d, d stays as low as it can be.
    cell = f * picture.d
    width = left + picture.width() + right
    middle = [[cell] * left + row + [cell] * right for row in picture.rows]
    return Picture(picture.d, lines_of(cell, width, above) + middle + lines_of(cell, width, below))


def moved_on(row, steps):
    staying = len(row) - steps % len(row)
    return row[staying:] + row[:staying]


def leaned(picture, k):
    return Picture(picture.d, [moved_on(row, k * y) for y, row in enumerate(picture.rows)])


def row_rounded(row, d):
    return [nearest_whole(cell, d) for cell in row]


def rounded(picture):
    return Picture(1, [row_rounded(row, picture.d) for row in picture.rows])


def drawn(w, h, cells):
    return Picture(1, [cells[y * w:y * w + w] for y in range(h)])


def size_refusal(w, h):
    if w < 1 or w > MOST_IN_A_LINE or h < 1 or h > MOST_IN_A_LINE:
        return NOT_THERE
    return GRANTED


def picture_refusal(w, h, cells):
    if size_refusal(w, h) != GRANTED or len(cells) != w * h:
        return NOT_THERE
    return most_refusal(max(cells), MOST_IN_A_CELL)


def most_refusal(number, most):
    if number > most:
        return TOO_LARGE
    return GRANTED


def cut_refusal(picture, x, y, u, v):
    if u == 0 or v == 0 or x + u > picture.width() or y + v > picture.height():
        return NOT_THERE
    return GRANTED


def border_refusal(picture, left, above, right, below, f):
    if left + picture.width() + right > MOST_IN_A_LINE or above + picture.height() + below > MOST_IN_A_LINE:
        return NOT_THERE
    return most_refusal(f, MOST_IN_A_CELL)


def undo_refusal(earlier):
    if len(earlier) == 0:
        return NOTHING_TO_UNDO
    return GRANTED


def cell_refusal(picture, x, y):
    if x >= picture.width() or y >= picture.height():
        return NOT_THERE
    return GRANTED


def refusal(desk, call, numbers):
    """What refuses the call ahead of any work: a number below 0, or GRANTED."""
    picture = desk.picture
    if call == PICTURE:
        return picture_refusal(numbers[0], numbers[1], numbers[3:])
    if call in (AREA, NEAREST, BETWEEN):
        return size_refusal(numbers[0], numbers[1])
    if call == TURN:
        return most_refusal(numbers[0], MOST_TURNS)
    if call == MIRROR:
        return most_refusal(numbers[0], MOST_MIRRORS)
    if call == CUT:
        return cut_refusal(picture, numbers[0], numbers[1], numbers[2], numbers[3])
    if call == BORDER:
        return border_refusal(picture, numbers[0], numbers[1], numbers[2], numbers[3], numbers[4])
    if call == LEAN:
        return most_refusal(numbers[0], MOST_LEANS)
    if call == UNDO:
        return undo_refusal(desk.earlier)
    if call == CELL:
        return cell_refusal(picture, numbers[0], numbers[1])
    return GRANTED


def changed(picture, call, numbers):
    """The picture that a granted change makes of this one."""
    if call == TURN:
        return turned(picture, numbers[0])
    if call == MIRROR:
        return mirrored(picture, numbers[0])
    if call == CUT:
        return cut_out(picture, numbers[0], numbers[1], numbers[2], numbers[3])
    if call == BORDER:
        return bordered(picture, numbers[0], numbers[1], numbers[2], numbers[3], numbers[4])
    if call == LEAN:
        return leaned(picture, numbers[0])
    if call == ROUNDED:
        return rounded(picture)
    return resized(picture, call, numbers[0], numbers[1])


def size_and_d(picture):
    return [picture.width(), picture.height(), picture.d]


def fraction_and_nearest(upper, lower):
    divisor = common_divisor(upper, lower)
    return [upper // divisor, lower // divisor, nearest_whole(upper, lower)]


def answer_to_picture(desk, w, h, cells):
    desk.begin(drawn(w, h, cells))
    return [w, h]


def answer_to_change(desk, call, numbers):
    fresh = changed(desk.picture, call, numbers)
    if fresh.d >= FIRST_D_REFUSED:
        return [D_TOO_LARGE]
    desk.change(fresh)
    return size_and_d(fresh)


def answer_to_undo(desk):
    desk.undo()
    return size_and_d(desk.picture)


def answer_to_now(picture):
    shown = size_and_d(picture)
    for row in picture.rows:
        shown.extend(row)
    return shown


def answer_to_cell(picture, x, y):
    return fraction_and_nearest(picture.rows[y][x], picture.d)


def answer_to_told(picture):
    width = picture.width()
    height = picture.height()
    total = sum([sum(row) for row in picture.rows])
    return [width, height] + fraction_and_nearest(total, picture.d * width * height)


def answer_to_call(desk, call, numbers):
    refused = refusal(desk, call, numbers)
    if refused != GRANTED:
        return [refused]
    if call == PICTURE:
        return answer_to_picture(desk, numbers[0], numbers[1], numbers[3:])
    if call == UNDO:
        return answer_to_undo(desk)
    if call == NOW:
        return answer_to_now(desk.picture)
    if call == CELL:
        return answer_to_cell(desk.picture, numbers[0], numbers[1])
    if call == TOLD:
        return answer_to_told(desk.picture)
    return answer_to_change(desk, call, numbers)


def end_of_call(calls, place):
    end = place + 1 + NUMBER_COUNTS[calls[place]]
    if calls[place] == PICTURE:
        return end + calls[end - 1]
    return end


def answers(calls):
    """For each of the calls, which are about one new picture, how many numbers are answered, then these."""
    desk = Desk()
    given = []
    place = 0
    while place < len(calls):
        end = end_of_call(calls, place)
        answered = answer_to_call(desk, calls[place], calls[place + 1:end])
        given.append(len(answered))
        given.extend(answered)
        place = end
    return given
