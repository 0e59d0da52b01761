"""The calls about one picture: it is drawn, gets another size, is turned, mirrored and cut out."""

PICTURE = 0
AREA = 1
NEAREST = 2
BETWEEN = 3
TURN = 4
MIRROR = 5
CUT = 6

# How many numbers stand behind each call's number; picture's cells come behind its three.
NUMBER_COUNTS = (3, 2, 2, 2, 1, 1, 4)

MOST_IN_A_LINE = 12
MOST_IN_A_CELL = 65535
MOST_TURNS = 3
MOST_MIRRORS = 1
FIRST_D_REFUSED = 4294967296

GRANTED = 0
NOT_THERE = -1
TOO_LARGE = -2
D_TOO_LARGE = -9


class Picture:
    """Rows of cells, from above; each cell is a number of d-ths. Nothing in it is changed once it is made."""

    def __init__(self, d, rows):
        self.d = d
        self.rows = rows

    def width(self):
        return len(self.rows[0])

    def height(self):
        return len(self.rows)


class Desk:
    """What is kept from one call to the next."""

    def __init__(self):
        self.picture = Picture(1, [[0]])


def common_divisor(first, second):
    while second != 0:
        rest = first % second
        first = second
        second = rest
    return first


def divided(row, divisor):
    return [cell // divisor for cell in row]


def in_lowest_terms(d, rows):
    divisor = d
    for row in rows:
        for cell in row:
            divisor = common_divisor(divisor, cell)
    return Picture(d // divisor, [divided(row, divisor) for row in rows])


def column(rows, x):
    return [row[x] for row in rows]


def columns(rows):
    return [column(rows, x) for x in range(len(rows[0]))]


def backwards(row):
    return list(reversed(row))


# The weights of a new column (or row): one for each old column, telling how much of the old one is in the new one.
# They are whole numbers, so each way has a sum of its own, the same for all new columns: d is multiplied by it.


def area_weights(old, new, place):
    # The whole width is old * new steps: so an old column is new steps wide, and a new one old steps.
    start = place * old
    end = start + old
    return [max(0, min(end, x * new + new) - max(start, x * new)) for x in range(old)]


def nearest_weights(old, new, place):
    # Rounding down takes the column behind the border when the middle lies on one.
    nearest = (2 * place + 1) * old // (2 * new)
    return [1 if x == nearest else 0 for x in range(old)]


def between_weights(old, new, place):
    # Counted from the first old middle, in steps of which there are 2 * new from one old middle to the one behind it.
    step = 2 * new
    middle = (2 * place + 1) * old - new
    inside = min(max(middle, 0), step * (old - 1))
    return [max(0, step - abs(inside - step * x)) for x in range(old)]


def weights_of_one(call, old, new, place):
    if call == AREA:
        return area_weights(old, new, place)
    if call == NEAREST:
        return nearest_weights(old, new, place)
    return between_weights(old, new, place)


def weights_of_all(call, old, new):
    return [weights_of_one(call, old, new, place) for place in range(new)]


def weighed(row, weights):
    return sum([cell * weight for cell, weight in zip(row, weights)])


def row_resized(row, all_weights):
    return [weighed(row, weights) for weights in all_weights]


def rows_resized(rows, all_weights):
    return [row_resized(row, all_weights) for row in rows]


def resized(picture, call, w, h):
    across = weights_of_all(call, picture.width(), w)
    down = weights_of_all(call, picture.height(), h)
    widened = rows_resized(picture.rows, across)
    rows = columns(rows_resized(columns(widened), down))
    return in_lowest_terms(picture.d * sum(across[0]) * sum(down[0]), rows)


def turned(picture, k):
    rows = picture.rows
    for quarter in range(k):
        rows = [backwards(one) for one in columns(rows)]
    return Picture(picture.d, rows)


def mirrored(picture, k):
    if k == 0:
        return Picture(picture.d, [backwards(row) for row in picture.rows])
    return Picture(picture.d, backwards(picture.rows))


def cut_out(picture, x, y, u, v):
    return in_lowest_terms(picture.d, [row[x:x + u] for row in picture.rows[y:y + v]])


def drawn(w, h, cells):
    return Picture(1, [cells[y * w:y * w + w] for y in range(h)])


def size_refusal(w, h):
    if w < 1 or w > MOST_IN_A_LINE or h < 1 or h > MOST_IN_A_LINE:
        return NOT_THERE
    return GRANTED


def picture_refusal(w, h, cells):
    if size_refusal(w, h) != GRANTED or len(cells) != w * h:
        return NOT_THERE
    return most_refusal(max(cells), MOST_IN_A_CELL)


def most_refusal(number, most):
    if number > most:
        return TOO_LARGE
    return GRANTED


def cut_refusal(picture, x, y, u, v):
    if u == 0 or v == 0 or x + u > picture.width() or y + v > picture.height():
        return NOT_THERE
    return GRANTED


def refusal(picture, call, numbers):
    """What refuses the call ahead of any work: a number below 0, or GRANTED."""
    if call == PICTURE:
        return picture_refusal(numbers[0], numbers[1], numbers[3:])
    if call == TURN:
        return most_refusal(numbers[0], MOST_TURNS)
    if call == MIRROR:
        return most_refusal(numbers[0], MOST_MIRRORS)
    if call == CUT:
        return cut_refusal(picture, numbers[0], numbers[1], numbers[2], numbers[3])
    return size_refusal(numbers[0], numbers[1])


def changed(picture, call, numbers):
    """The picture that a granted change makes of this one."""
    if call == TURN:
        return turned(picture, numbers[0])
    if call == MIRROR:
        return mirrored(picture, numbers[0])
    if call == CUT:
        return cut_out(picture, numbers[0], numbers[1], numbers[2], numbers[3])
    return resized(picture, call, numbers[0], numbers[1])


def answer_to_change(desk, call, numbers):
    fresh = changed(desk.picture, call, numbers)
    if fresh.d >= FIRST_D_REFUSED:
        return [D_TOO_LARGE]
    desk.picture = fresh
    return [fresh.width(), fresh.height(), fresh.d]


def answer_to_call(desk, call, numbers):
    refused = refusal(desk.picture, call, numbers)
    if refused != GRANTED:
        return [refused]
    if call == PICTURE:
        desk.picture = drawn(numbers[0], numbers[1], numbers[3:])
        return [numbers[0], numbers[1]]
    return answer_to_change(desk, call, numbers)


def end_of_call(calls, place):
    end = place + 1 + NUMBER_COUNTS[calls[place]]
    if calls[place] == PICTURE:
        return end + calls[end - 1]
    return end


def answers_at(desk, calls):
    """Does the calls at this desk; for each call how many numbers are answered, then these."""
    given = []
    place = 0
    while place < len(calls):
        end = end_of_call(calls, place)
        answered = answer_to_call(desk, calls[place], calls[place + 1:end])
        given.append(len(answered))
        given.extend(answered)
        place = end
    return given


def answers(calls):
    """The answers to the calls, which are about one new picture, 1 by 1 with a 0."""
    return answers_at(Desk(), calls)
