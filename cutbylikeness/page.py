"""Cells of a page chosen by likeness: a line's calls in one list, their answers in another."""

PAGE = 0
SHARP = 1
LIKE = 2
STEPS = 3
WITHIN = 4
WITHOUT = 5

# By a call's number: how many whole numbers stand behind it, and whether a row stands behind these.
WHOLES = (2, 1, 2, 2, 0, 0)
HAS_ROW = (True, False, False, False, True, True)

# The refusals: what has no place on the page, a number out of its bounds, a seed of the other side.
NO_PLACE = -1
OUT_OF_BOUNDS = -2
OTHER_SIDE = -6

LONGEST_SIDE = 5
GREATEST_NUMBER = 255


# What the calls of one line find and leave behind.
class Page:
    def __init__(self):
        self.columns = 1
        self.numbers = [0]
        self.sharp = 1
        self.within = []
        self.without = []


def is_side(length):
    return 1 <= length and length <= LONGEST_SIDE


def is_cell(page, cell):
    return cell < len(page.numbers)


def are_rising_cells(page, cells):
    least = 0
    for cell in cells:
        if cell < least or not is_cell(page, cell):
            return False
        least = cell + 1
    return True


def cells_beside(page, cell):
    column = cell % page.columns
    beside = []
    if cell >= page.columns:
        beside.append(cell - page.columns)
    if column > 0:
        beside.append(cell - 1)
    if column + 1 < page.columns:
        beside.append(cell + 1)
    if cell + page.columns < len(page.numbers):
        beside.append(cell + page.columns)
    return beside


def difference(page, one, other):
    return abs(page.numbers[one] - page.numbers[other])


# Each cell of a way is held against the one before it if by_steps, else against start.
def cells_reached(page, start, bound, by_steps):
    reached = {start: True}
    waiting = [start]
    while len(waiting) > 0:
        cell = waiting.pop()
        model = cell if by_steps else start
        for other in cells_beside(page, cell):
            if other not in reached and difference(page, other, model) <= bound:
                reached[other] = True
                waiting.append(other)
    return sorted(reached)


def put_page(page, columns, rows, numbers):
    if not is_side(columns) or not is_side(rows) or len(numbers) != columns * rows:
        return NO_PLACE
    for number in numbers:
        if number > GREATEST_NUMBER:
            return OUT_OF_BOUNDS
    page.columns = columns
    page.numbers = list(numbers)
    # Seeds are cells of the page that they were put on.
    page.within = []
    page.without = []
    return 0


def put_sharp(page, sharp):
    if sharp < 1 or sharp > GREATEST_NUMBER:
        return OUT_OF_BOUNDS
    page.sharp = sharp
    return 0


# What steps answers if by_steps, else what like does.
def choose(page, start, bound, by_steps):
    if not is_cell(page, start):
        return [NO_PLACE]
    if bound > GREATEST_NUMBER:
        return [OUT_OF_BOUNDS]
    cells = cells_reached(page, start, bound, by_steps)
    return [len(cells)] + cells


# How many seeds these are, or why they can't be seeds as long as the other side has its own.
def seeds_answer(page, cells, other_side):
    if not are_rising_cells(page, cells):
        return NO_PLACE
    for cell in cells:
        if cell in other_side:
            return OTHER_SIDE
    return len(cells)


def put_within(page, cells):
    answer = seeds_answer(page, cells, page.without)
    if answer >= 0:
        page.within = list(cells)
    return answer


def put_without(page, cells):
    answer = seeds_answer(page, cells, page.within)
    if answer >= 0:
        page.without = list(cells)
    return answer


# What the call leaves behind is left in page.
def answer_to(page, call, wholes, row):
    if call == PAGE:
        return [put_page(page, wholes[0], wholes[1], row)]
    if call == SHARP:
        return [put_sharp(page, wholes[0])]
    if call == LIKE:
        return choose(page, wholes[0], wholes[1], False)
    if call == STEPS:
        return choose(page, wholes[0], wholes[1], True)
    if call == WITHIN:
        return [put_within(page, row)]
    return [put_without(page, row)]


# For each call of the line, in order: how many numbers are answered, then these.
def answers(calls):
    page = Page()
    given = []
    at = 0
    while at < len(calls):
        call = calls[at]
        behind = at + 1 + WHOLES[call]
        wholes = calls[at + 1:behind]
        row = []
        if HAS_ROW[call]:
            first = behind + 1
            behind = first + calls[behind]
            row = calls[first:behind]
        answer = answer_to(page, call, wholes, row)
        given.append(len(answer))
        given.extend(answer)
        at = behind
    return given
