"""Cells of a page chosen by likeness: a line's calls in one list, their answers in another."""

PAGE = 0
SHARP = 1
LIKE = 2
STEPS = 3
WITHIN = 4
WITHOUT = 5
CUT = 6
WIDE = 7
COST = 8
EDGE = 9
PRICE = 10

# By a call's number: how many whole numbers stand behind it, and whether a row stands behind these.
WHOLES = (2, 1, 2, 2, 0, 0, 0, 0, 0, 0, 2)
HAS_ROW = (True, False, False, False, True, True, False, False, True, False, False)

# The refusals: what has no place on the page, a number out of its bounds, no seeds on a side, a seed of the other side.
NO_PLACE = -1
OUT_OF_BOUNDS = -2
NO_SEEDS = -4
OTHER_SIDE = -6

LONGEST_SIDE = 5
GREATEST_NUMBER = 255
# What it costs to part cells beside one another that have the same number.
GREATEST_PARTING = 255


# What the calls of one line find and leave behind.
class Page:
    def __init__(self):
        self.columns = 1
        self.numbers = [0]
        self.sharp = 1
        self.within = []
        self.without = []


def is_side(length):
    return 1 <= length and length <= LONGEST_SIDE


def is_cell(page, cell):
    return cell < len(page.numbers)


def are_rising_cells(page, cells):
    least = 0
    for cell in cells:
        if cell < least or not is_cell(page, cell):
            return False
        least = cell + 1
    return True


# Rising, as edge tells them.
def cells_beside(page, cell):
    column = cell % page.columns
    beside = []
    if cell >= page.columns:
        beside.append(cell - page.columns)
    if column > 0:
        beside.append(cell - 1)
    if column + 1 < page.columns:
        beside.append(cell + 1)
    if cell + page.columns < len(page.numbers):
        beside.append(cell + page.columns)
    return beside


def difference(page, one, other):
    return abs(page.numbers[one] - page.numbers[other])


# Each cell of a way is held against the one before it if by_steps, else against start.
def cells_reached(page, start, bound, by_steps):
    reached = {start: True}
    waiting = [start]
    while len(waiting) > 0:
        cell = waiting.pop()
        model = cell if by_steps else start
        for other in cells_beside(page, cell):
            if other not in reached and difference(page, other, model) <= bound:
                reached[other] = True
                waiting.append(other)
    return sorted(reached)


# For two cells that are beside one another.
def parting(page, one, other):
    return max(1, GREATEST_PARTING - page.sharp * difference(page, one, other))


# Each cell of the region with each one beside it that isn't the region's.
def parted_pairs(page, region):
    pairs = []
    for cell in region:
        for other in cells_beside(page, cell):
            if other not in region:
                pairs.append((cell, other))
    return pairs


def cost_of(page, region):
    return sum([parting(page, one, other) for one, other in parted_pairs(page, region)])


# The least of the cheapest regions is found by a flow: as much as can be is led from the seeds of its side to those of
# the other, from cell to cell no more than it costs to part them. What's still reached then is that region.

# For each cell and each one beside it, how much can still be led from the one to the other.
def whole_room(page):
    room = []
    for cell in range(len(page.numbers)):
        to = {}
        for other in cells_beside(page, cell):
            to[other] = parting(page, cell, other)
        room.append(to)
    return room


# The cells to which there's room on a way from starts, the nearest first, each with the one before it on that way;
# a start has itself there.
def reached_through(room, starts):
    before = {}
    for cell in starts:
        before[cell] = cell
    waiting = list(starts)
    at = 0
    while at < len(waiting):
        cell = waiting[at]
        for other in room[cell]:
            if room[cell][other] > 0 and other not in before:
                before[other] = cell
                waiting.append(other)
        at += 1
    return before


# The pairs of cells that follow one another on a shortest way with room, none if there's no such way.
def way_with_room(room, starts, ends):
    before = reached_through(room, starts)
    reached = [cell for cell in before if cell in ends]
    pairs = []
    if len(reached) > 0:
        cell = reached[0]
        while before[cell] != cell:
            pairs.append((before[cell], cell))
            cell = before[cell]
    return pairs


def lead_along(room, way):
    much = min([room[one][other] for one, other in way])
    for one, other in way:
        room[one][other] -= much
        # A later way may lead this back.
        room[other][one] += much


# Of the cheapest regions with all of own_seeds and none of other_seeds.
def least_region(page, own_seeds, other_seeds):
    room = whole_room(page)
    way = way_with_room(room, own_seeds, other_seeds)
    while len(way) > 0:
        lead_along(room, way)
        way = way_with_room(room, own_seeds, other_seeds)
    return sorted(reached_through(room, own_seeds))


# What a region leaves out costs the same: where the other side has the least that it can have, this one has the most.
def greatest_region(page):
    left_out = least_region(page, page.without, page.within)
    return [cell for cell in range(len(page.numbers)) if cell not in left_out]


def put_page(page, columns, rows, numbers):
    if not is_side(columns) or not is_side(rows) or len(numbers) != columns * rows:
        return NO_PLACE
    for number in numbers:
        if number > GREATEST_NUMBER:
            return OUT_OF_BOUNDS
    page.columns = columns
    page.numbers = list(numbers)
    # Seeds are cells of the page that they were put on.
    page.within = []
    page.without = []
    return 0


def put_sharp(page, sharp):
    if sharp < 1 or sharp > GREATEST_NUMBER:
        return OUT_OF_BOUNDS
    page.sharp = sharp
    return 0


# What steps answers if by_steps, else what like does.
def choose(page, start, bound, by_steps):
    if not is_cell(page, start):
        return [NO_PLACE]
    if bound > GREATEST_NUMBER:
        return [OUT_OF_BOUNDS]
    cells = cells_reached(page, start, bound, by_steps)
    return [len(cells)] + cells


# How many seeds these are, or why they can't be seeds as long as the other side has its own.
def seeds_answer(page, cells, other_side):
    if not are_rising_cells(page, cells):
        return NO_PLACE
    for cell in cells:
        if cell in other_side:
            return OTHER_SIDE
    return len(cells)


def put_within(page, cells):
    answer = seeds_answer(page, cells, page.without)
    if answer >= 0:
        page.within = list(cells)
    return answer


def put_without(page, cells):
    answer = seeds_answer(page, cells, page.within)
    if answer >= 0:
        page.without = list(cells)
    return answer


def tell_region(page, region):
    return [cost_of(page, region), len(region)] + region


def tell_pairs(pairs):
    told = [len(pairs)]
    for one, other in pairs:
        told.append(one)
        told.append(other)
    return told


# What cut, wide or edge answers.
def tell_cheapest(page, call):
    if len(page.within) == 0 or len(page.without) == 0:
        return [NO_SEEDS]
    if call == WIDE:
        return tell_region(page, greatest_region(page))
    region = least_region(page, page.within, page.without)
    if call == CUT:
        return tell_region(page, region)
    return tell_pairs(parted_pairs(page, region))


def tell_cost(page, cells):
    if not are_rising_cells(page, cells):
        return NO_PLACE
    return cost_of(page, cells)


def tell_price(page, one, other):
    if not is_cell(page, one) or not is_cell(page, other):
        return NO_PLACE
    if other not in cells_beside(page, one):
        return 0
    return parting(page, one, other)


# What the call leaves behind is left in page.
def answer_to(page, call, wholes, row):
    if call == PAGE:
        return [put_page(page, wholes[0], wholes[1], row)]
    if call == SHARP:
        return [put_sharp(page, wholes[0])]
    if call == LIKE:
        return choose(page, wholes[0], wholes[1], False)
    if call == STEPS:
        return choose(page, wholes[0], wholes[1], True)
    if call == WITHIN:
        return [put_within(page, row)]
    if call == WITHOUT:
        return [put_without(page, row)]
    if call == COST:
        return [tell_cost(page, row)]
    if call == PRICE:
        return [tell_price(page, wholes[0], wholes[1])]
    return tell_cheapest(page, call)


# For each call of the line, in order: how many numbers are answered, then these.
def answers(calls):
    page = Page()
    given = []
    at = 0
    while at < len(calls):
        call = calls[at]
        behind = at + 1 + WHOLES[call]
        wholes = calls[at + 1:behind]
        row = []
        if HAS_ROW[call]:
            first = behind + 1
            behind = first + calls[behind]
            row = calls[first:behind]
        answer = answer_to(page, call, wholes, row)
        given.append(len(answer))
        given.extend(answer)
        at = behind
    return given
