"""Promise 3, cut, wide and edge, and what the cheapest regions stand for."""

import itertools
import unittest

from tests.lines import GREATEST, ask, cost, cut, edge, last, like, page, price, sharp, told, wide, within, without

ASKED = (cut(), wide(), edge())

# Pages (w, h, numbers, sharp, seeds within, seeds without) on which shortest ways from side to side, one after
# another, use up what another way is in need of: whoever never takes a way back finds a region too dear or too large.
LED_BACK = (
    (2, 4, [121, 92, 30, 209, 92, 218, 119, 142], 1, [7], [2]),
    (3, 3, [0, 2, 2, 1, 0, 0, 1, 1, 0], 127, [0, 8], [7]),
    (3, 3, [202, 201, 141, 192, 89, 144, 186, 184, 104], 2, [2, 8], [7]),
    (3, 3, [1, 3, 1, 3, 1, 0, 3, 1, 0], 84, [0, 1, 8], [7]),
    (3, 4, [93, 82, 54, 152, 69, 157, 101, 167, 131, 145, 141, 226], 2, [10], [0, 3, 11]),
    (3, 5, [0, 0, 0, 2, 1, 4, 0, 3, 1, 2, 3, 4, 2, 4, 0], 60, [3, 11], [10]),
    (4, 4, [242, 117, 244, 42, 178, 221, 86, 179, 55, 169, 35, 108, 25, 62, 68, 60], 1, [10, 13, 14], [1, 11]),
    (5, 5, [1, 0, 0, 0, 0, 1, 1, 0, 1, 0, 1, 1, 1, 0, 1, 0, 1, 1, 0, 0, 0, 0, 0, 0, 1], 255, [1, 16, 24], [10, 13]),
    (5, 5, [1, 0, 0, 1, 1, 1, 0, 1, 1, 0, 1, 0, 0, 0, 0, 0, 0, 0, 0, 0, 0, 0, 0, 1, 1], 128, [10, 14], [21]),
    (5, 5, [2, 0, 1, 2, 2, 4, 0, 0, 2, 0, 1, 0, 4, 2, 0, 2, 4, 2, 3, 3, 1, 4, 4, 1, 3], 60, [8], [0, 18]),
)


def pairs_beside(w, h):
    """All pairs of cells beside one another, the lower number first."""
    for cell in range(w * h):
        if cell % w + 1 < w:
            yield cell, cell + 1
        if cell + w < w * h:
            yield cell, cell + w


def parting(numbers, k, a, b):
    return max(1, 255 - k * abs(numbers[a] - numbers[b]))


def cells_of(bits):
    return [cell for cell in range(25) if bits >> cell & 1]


def bits_of(cells):
    return sum(1 << cell for cell in cells)


def told_region(least_cost, bits):
    return [least_cost, len(cells_of(bits))] + cells_of(bits)


def told_edge(w, h, bits):
    both_ways = [pair for a, b in pairs_beside(w, h) for pair in ((a, b), (b, a))]
    pairs = sorted((a, b) for a, b in both_ways if bits >> a & 1 and not bits >> b & 1)
    return [len(pairs)] + [cell for pair in pairs for cell in pair]


def all_costs(w, h, numbers, k):
    """What each choice of cells costs, by its bits."""
    priced = [(a, b, parting(numbers, k, a, b)) for a, b in pairs_beside(w, h)]
    return [sum(much for a, b, much in priced if bits >> a & 1 != bits >> b & 1) for bits in range(1 << w * h)]


def both_sides_seeded(cells):
    """All ways to make some of the cells seeds within and some seeds without, at least one of each."""
    for sides in itertools.product((None, within, without), repeat=cells):
        if within in sides and without in sides:
            yield tuple(tuple(cell for cell in range(cells) if sides[cell] == side) for side in (within, without))


class TestCutAndWide(unittest.TestCase):
    def test_one_cheapest_region(self):
        numbers = [10, 12, 90,
                   11, 13, 91,
                   80, 92, 93]
        here = (page(3, 3, numbers), sharp(3), within(0), without(8))
        # 1 from 2, 3 from 6, 4 from 5, 4 from 7.
        much = 21 + 48 + 21 + 18
        self.assertEqual(told(*here, *ASKED)[4:], [[much, 4, 0, 1, 3, 4], [much, 4, 0, 1, 3, 4],
                                                   [4, 1, 2, 3, 6, 4, 5, 4, 7]])

    def test_several_cheapest_regions(self):
        self.assertEqual(told(page(3, 1, [0, 0, 0]), within(0), without(2), cut(), wide())[3:],
                         [[255, 1, 0], [255, 2, 0, 1]])
        self.assertEqual(told(page(2, 2, [0] * 4), within(0), without(3), cut(), wide())[3:],
                         [[510, 1, 0], [510, 3, 0, 1, 2]])

    def test_neither_the_seeds_alone_nor_all_but_seeds(self):
        here = (page(5, 1, [0, 0, 9, 18, 18]), within(0), without(4))
        self.assertEqual(told(*here, cut(), wide())[3:], [[246, 2, 0, 1], [246, 3, 0, 1, 2]])

    def test_one_row_and_one_column(self):
        for w, h in ((5, 1), (1, 5)):
            here = page(w, h, [100, 50, 50, 70, 70])
            self.assertEqual(told(here, within(0), without(4), cut(), wide())[3:], [[205, 1, 0]] * 2)
            self.assertEqual(told(here, within(4), without(0), cut(), wide())[3:], [[205, 4, 1, 2, 3, 4]] * 2)
            self.assertEqual(told(here, within(1), without(4), cut(), wide())[3:], [[235, 3, 0, 1, 2]] * 2)
            self.assertEqual(told(here, within(2), without(0, 4), cut(), wide())[3:], [[440, 2, 1, 2]] * 2)
            self.assertEqual(told(here, within(0, 4), without(2), cut(), wide())[3:], [[440, 3, 0, 3, 4]] * 2)
            self.assertEqual(told(here, within(3), without(4), cut(), wide())[3:], [[255, 4, 0, 1, 2, 3]] * 2)

    def test_seeds_that_are_all_the_cells(self):
        here = (page(3, 2, [1, 2, 3, 4, 5, 6]), within(0, 4, 5), without(1, 2, 3))
        much = 254 + 252 + 252 + 252 + 254
        self.assertEqual(told(*here, cut(), wide())[3:], [[much, 3, 0, 4, 5]] * 2)
        here = (page(5, 5, [0] * 25), within(12), without(*range(12), *range(13, 25)))
        self.assertEqual(told(*here, cut(), wide())[3:], [[1020, 1, 12]] * 2)
        here = (page(5, 5, [0] * 25), within(*range(24)), without(24))
        self.assertEqual(told(*here, cut(), wide())[3:], [[510, 24] + list(range(24))] * 2)

    def test_seeds_of_the_two_sides_beside_one_another(self):
        for w, h in ((2, 1), (1, 2)):
            self.assertEqual(told(page(w, h, [7, 7]), within(0), without(1), *ASKED)[3:],
                             [[255, 1, 0], [255, 1, 0], [1, 0, 1]])
            self.assertEqual(told(page(w, h, [0, 255]), within(1), without(0), *ASKED)[3:],
                             [[1, 1, 1], [1, 1, 1], [1, 1, 0]])
        self.assertEqual(told(page(3, 2, [0] * 6), within(1), without(4), cut(), wide())[3:],
                         [[765, 1, 1], [765, 5, 0, 1, 2, 3, 5]])

    def test_several_seeds_on_either_side(self):
        self.assertEqual(told(page(3, 3, [0] * 9), within(4), without(0, 2, 6, 8), cut(), wide())[3:],
                         [[1020, 1, 4]] * 2)
        self.assertEqual(told(page(3, 3, [0] * 9), within(0, 2, 6, 8), without(4), cut(), wide())[3:],
                         [[1020, 8, 0, 1, 2, 3, 5, 6, 7, 8]] * 2)
        self.assertEqual(told(page(4, 2, [0] * 8), within(0, 4), without(3, 7), cut(), wide())[3:],
                         [[510, 2, 0, 4], [510, 6, 0, 1, 2, 4, 5, 6]])

    def test_a_region_may_be_in_several_parts(self):
        self.assertEqual(told(page(5, 1, [0, 50, 50, 50, 0]), within(0, 4), without(2), cut(), wide())[3:],
                         [[410, 2, 0, 4]] * 2)

    def test_cells_that_are_cheap_to_have_but_far_from_the_seeds(self):
        # The pit in the middle hangs on no seed: parted from all around it, it only costs.
        numbers = [0, 0, 0,
                   0, 200, 0,
                   0, 0, 0]
        here = (page(3, 3, numbers), within(0), without(8))
        self.assertEqual(told(*here, cut(), wide())[3:], [[510, 1, 0], [510, 8] + list(range(8))])

    def test_five_by_five(self):
        self.assertEqual(told(page(5, 5, [0] * 25), within(0), without(24), cut(), wide())[3:],
                         [[510, 1, 0], [510, 24] + list(range(24))])
        shape = [6, 7, 8, 11, 12, 13, 16, 17, 18]
        numbers = [200 if cell in shape else 20 for cell in range(25)]
        # Not sharp enough: 12 pairs at 75 each cost more than the two that part the corner.
        self.assertEqual(told(page(5, 5, numbers), within(12), without(0), *ASKED)[3:],
                         [[510, 24] + list(range(1, 25)), [510, 24] + list(range(1, 25)), [2, 1, 0, 5, 0]])
        self.assertEqual(told(page(5, 5, numbers), sharp(2), within(12), without(0), *ASKED)[4:],
                         [[12, 9] + shape, [12, 9] + shape,
                          [12, 6, 1, 6, 5, 7, 2, 8, 3, 8, 9, 11, 10, 13, 14, 16, 15, 16, 21, 17, 22, 18, 19, 18, 23]])

    def test_sharp(self):
        here = (page(4, 1, [0, 10, 30, 31]), within(0), without(3))
        self.assertEqual(told(*here, cut(), wide(), sharp(20), cut(), wide(), sharp(255), cut(), wide())[3:],
                         [[235, 2, 0, 1], [235, 2, 0, 1], [0], [1, 2, 0, 1], [1, 2, 0, 1],
                          [0], [1, 1, 0], [1, 3, 0, 1, 2]])

    def test_new_seeds_stand_in_the_place_of_the_earlier_ones(self):
        line = (page(4, 1, [0] * 4), within(0), without(3), cut(), within(1), cut(), without(2), cut(), wide())
        self.assertEqual(told(*line)[3:], [[255, 1, 0], [1], [255, 2, 0, 1], [1], [255, 2, 0, 1], [255, 2, 0, 1]])


class TestEdge(unittest.TestCase):
    def test_by_the_first_then_by_the_second(self):
        self.assertEqual(last(page(3, 3, [0] * 9), within(4), without(0, 2, 6, 8), edge()),
                         [4, 4, 1, 4, 3, 4, 5, 4, 7])
        self.assertEqual(last(page(3, 3, [0] * 9), within(0, 2, 6, 8), without(4), edge()),
                         [4, 1, 4, 3, 4, 5, 4, 7, 4])

    def test_the_regions_own_cell_first(self):
        self.assertEqual(last(page(3, 1, [0, 0, 9]), within(0), without(2), edge()), [1, 1, 2])
        self.assertEqual(last(page(3, 1, [0, 0, 9]), within(2), without(0), edge()), [1, 2, 1])

    def test_of_the_least_one(self):
        self.assertEqual(last(page(2, 2, [0] * 4), within(0), without(3), edge()), [2, 0, 1, 0, 2])
        self.assertEqual(last(page(2, 2, [0] * 4), within(3), without(0), edge()), [2, 3, 1, 3, 2])

    def test_one_row_and_one_column(self):
        for w, h in ((5, 1), (1, 5)):
            self.assertEqual(last(page(w, h, [0] * 5), within(1, 3), without(0, 2, 4), edge()),
                             [4, 1, 0, 1, 2, 3, 2, 3, 4])

    def test_every_second_cell(self):
        here = (page(5, 5, [3] * 25), within(*range(0, 25, 2)), without(*range(1, 25, 2)))
        given = last(*here, edge())
        self.assertEqual(given, told_edge(5, 5, bits_of(range(0, 25, 2))))
        self.assertEqual(given[0], 40)
        self.assertEqual(last(*here, cut())[0], 40 * 255)


class TestNoSeeds(unittest.TestCase):
    def check(self, *calls):
        for asked in ASKED:
            self.assertEqual(last(*calls, asked), [-4], calls)
        self.assertEqual(told(*calls, *ASKED)[-3:], [[-4]] * 3)

    def test_at_the_beginning(self):
        for asked in ASKED:
            self.assertEqual(ask(asked), [1, -4])

    def test_none_within(self):
        self.check(without(0))
        self.check(page(2, 2, [0] * 4), without(1, 2))
        self.check(page(2, 2, [0] * 4), without(*range(4)))

    def test_none_without(self):
        self.check(within(0))
        self.check(page(2, 2, [0] * 4), within(1, 2))
        self.check(page(2, 2, [0] * 4), within(*range(4)))

    def test_neither(self):
        self.check(page(5, 5, [0] * 25))
        self.check(page(5, 5, [0] * 25), within(), without())

    def test_after_a_page_call(self):
        here = page(2, 1, [0, 0])
        self.check(here, within(0), without(1), here)
        self.check(here, within(0), without(1), here, within(0))
        self.check(here, within(0), without(1), here, without(1))

    def test_after_no_cells(self):
        here = page(2, 1, [0, 0])
        self.check(here, within(0), without(1), within())
        self.check(here, within(0), without(1), without())
        self.check(here, within(0), without(1), within(), without())

    def test_seeds_that_were_refused(self):
        self.check(page(2, 1, [0, 0]), within(0), without(0, 1))
        self.check(page(2, 1, [0, 0]), without(1), within(1))
        self.check(page(2, 1, [0, 0]), without(1), within(2))
        self.check(page(2, 1, [0, 0]), within(1), without(1, 0))

    def test_seeds_put_afterwards(self):
        line = (page(2, 1, [0, 0]), cut(), within(0), wide(), without(1), cut(), within(), edge(), within(0), edge())
        self.assertEqual(told(*line), [[0], [-4], [1], [-4], [1], [255, 1, 0], [0], [-4], [1], [1, 0, 1]])


class TestAllIsAsItWas(unittest.TestCase):
    HERE = (page(3, 2, [10, 20, 50, 10, 13, 250]), sharp(2), within(0, 3), without(5))
    BEHIND = (*ASKED, price(0, 1), price(4, 5), cost(1, 4), like(0, 3), like(6, 0), cost(6), without(0), within(5))

    def setUp(self):
        self.untouched = told(*self.HERE, *self.BEHIND)[4:]
        self.assertEqual(self.untouched[-4:], [[-1], [-1], [-6], [-6]])
        self.assertEqual(self.untouched[3:5], [[235], [1]])

    def test_after_cut_wide_and_edge(self):
        for asked in ASKED:
            self.assertEqual(told(*self.HERE, asked, *self.BEHIND)[5:], self.untouched)
        self.assertEqual(told(*self.HERE, *ASKED, *ASKED, *self.BEHIND)[10:], self.untouched)

    def test_after_any_refusal(self):
        for refused in (page(0, 1, []), page(6, 1, [0] * 6), page(3, 2, [0] * 5), page(3, 2, [0] * 5 + [256]),
                        page(GREATEST, GREATEST, [GREATEST] * 30), sharp(0), sharp(256), sharp(GREATEST),
                        [2, 6, 0], [2, 0, 256], [2, GREATEST, GREATEST], [3, 6, 0], [3, 0, 256], [3, 0, GREATEST],
                        within(6), within(1, 0), within(0, 0), within(0, 5), within(GREATEST), within(*[GREATEST] * 30),
                        without(6), without(5, 4), without(5, 5), without(0, 5), without(5, GREATEST),
                        cost(6), cost(1, 0), cost(2, 2), cost(GREATEST), cost(*[GREATEST] * 30),
                        price(6, 0), price(0, 6), price(GREATEST, GREATEST)):
            with self.subTest(refused=refused):
                given = told(*self.HERE, refused, *self.BEHIND)
                self.assertEqual(len(given[4]), 1)
                self.assertLess(given[4][0], 0)
                self.assertEqual(given[5:], self.untouched)

    def test_after_a_refusal_for_want_of_seeds(self):
        for side, cells, other, others in ((within, (0,), without, (5,)), (without, (0,), within, (5,))):
            here = (page(3, 2, [10, 20, 50, 10, 13, 250]), sharp(2), side(*cells))
            behind = (price(0, 1), like(0, 3), other(*cells), other(*others), *ASKED)
            untouched = told(*here, *behind)[3:]
            self.assertEqual(untouched[2:4], [[-6], [1]])
            for asked in ASKED:
                self.assertEqual(told(*here, asked, *behind)[3:], [[-4]] + untouched)


class TestAgainstEveryRegion(unittest.TestCase):
    """Small pages, with each region tried."""

    def check(self, w, h, numbers, k, costs, seeds):
        inside, outside = seeds
        own, others = bits_of(inside), bits_of(outside)
        regions = [bits for bits in range(1 << w * h) if bits & own == own and bits & others == 0]
        least_cost = min(costs[bits] for bits in regions)
        cheapest = [bits for bits in regions if costs[bits] == least_cost]
        least = greatest = cheapest[0]
        for bits in cheapest:
            least &= bits
            greatest |= bits
        line = (sharp(k), page(w, h, numbers), within(*inside), without(*outside), *ASKED,
                cost(*cells_of(least)), cost(*cells_of(greatest)),
                within(), without(*inside), within(*outside), cut(), wide())
        every = (1 << w * h) - 1
        expected = [told_region(least_cost, least), told_region(least_cost, greatest), told_edge(w, h, least),
                    [least_cost], [least_cost],
                    [0], [len(inside)], [len(outside)],
                    told_region(least_cost, every - greatest), told_region(least_cost, every - least)]
        if told(*line)[4:] != expected:
            self.fail((w, h, numbers, k, seeds, told(*line)[4:], expected))

    def check_all(self, w, h, every_numbers, sharps, step):
        """Of all pages with all seeds each step-th."""
        every_seeds = list(both_sides_seeded(w * h))
        at = 0
        for numbers in every_numbers:
            for k in sharps:
                costs = all_costs(w, h, numbers, k)
                for seeds in every_seeds[at % step::step]:
                    self.check(w, h, numbers, k, costs, seeds)
                at += 1

    def test_ways_led_back(self):
        for w, h, numbers, k, inside, outside in LED_BACK[:5]:
            self.check(w, h, numbers, k, all_costs(w, h, numbers, k), (inside, outside))

    def test_up_to_three_cells(self):
        for w, h in ((1, 2), (2, 1), (1, 3), (3, 1)):
            self.check_all(w, h, itertools.product((0, 1, 2, 130, 255), repeat=w * h), (1, 2, 255), 1)

    def test_four_cells(self):
        for w, h in ((1, 4), (4, 1), (2, 2)):
            self.check_all(w, h, itertools.product((0, 1, 60, 200), repeat=4), (1, 3), 7)

    def test_some_pages_of_six_cells(self):
        for w, h in ((2, 3), (3, 2)):
            every = itertools.product((0, 40, 50, 250), repeat=6)
            self.check_all(w, h, itertools.islice(every, 0, None, 67), (1, 5), 23)

    def test_some_pages_of_nine_cells(self):
        every = itertools.product((0, 1, 90, 100), repeat=9)
        self.check_all(3, 3, itertools.islice(every, 0, None, 4373), (1, 2), 2003)

    def test_some_pages_of_ten_cells(self):
        for w, h in ((2, 5), (5, 2)):
            every = itertools.product((7, 7, 107, 120), repeat=10)
            self.check_all(w, h, itertools.islice(every, 0, None, 48611), (1, 2), 9001)


class TestAgainstRowByRow(unittest.TestCase):
    """Pages up to 5 by 5, held against what the rows cost at the least, each with each that may follow it."""

    def row_costs(self, w, h, numbers, k):
        costs = []
        for row in range(h):
            priced = [(a, parting(numbers, k, row * w + a, row * w + a + 1)) for a in range(w - 1)]
            costs.append([sum(much for a, much in priced if (bits >> a ^ bits >> a + 1) & 1) for bits in range(1 << w)])
        return costs

    def step_costs(self, w, h, numbers, k):
        """By the columns in which a row and the next one differ."""
        costs = []
        for row in range(h - 1):
            priced = [(a, parting(numbers, k, row * w + a, row * w + a + w)) for a in range(w)]
            costs.append([sum(much for a, much in priced if bits >> a & 1) for bits in range(1 << w)])
        return costs

    def cheapest(self, w, h, numbers, k, inside, outside):
        rows, steps = self.row_costs(w, h, numbers, k), self.step_costs(w, h, numbers, k)
        allowed = []
        for row in range(h):
            own, others = bits_of(inside) >> row * w, bits_of(outside) >> row * w
            allowed.append([bits for bits in range(1 << w)
                            if all(bits >> a & 1 or not own >> a & 1 for a in range(w)) and bits & others == 0])
        above = [{bits: 0 for bits in allowed[0]}]
        for row in range(1, h):
            above.append({bits: min(above[-1][up] + rows[row - 1][up] + steps[row - 1][up ^ bits]
                                    for up in allowed[row - 1]) for bits in allowed[row]})
        below = {bits: 0 for bits in allowed[-1]}
        least = greatest = 0
        for row in reversed(range(h)):
            whole = {bits: above[row][bits] + rows[row][bits] + below[bits] for bits in allowed[row]}
            least_cost = min(whole.values())
            part = [bits for bits in allowed[row] if whole[bits] == least_cost]
            least |= bits_of(a for a in range(w) if all(bits >> a & 1 for bits in part)) << row * w
            greatest |= bits_of(a for a in range(w) if any(bits >> a & 1 for bits in part)) << row * w
            if row > 0:
                below = {bits: min(below[down] + rows[row][down] + steps[row - 1][down ^ bits]
                                   for down in allowed[row]) for bits in allowed[row - 1]}
        return least_cost, least, greatest

    def check(self, w, h, numbers, k, inside, outside):
        least_cost, least, greatest = self.cheapest(w, h, numbers, k, inside, outside)
        here = (page(w, h, numbers), sharp(k), within(*inside), without(*outside))
        given = told(*here, *ASKED, cost(*cells_of(least)), cost(*cells_of(greatest)))[4:]
        expected = [told_region(least_cost, least), told_region(least_cost, greatest), told_edge(w, h, least),
                    [least_cost], [least_cost]]
        if given != expected:
            self.fail((w, h, numbers, k, inside, outside, given, expected))
        self.check_prices(here, given[0][0], given[2])
        return least != greatest

    def check_prices(self, here, least_cost, given_edge):
        pairs = list(zip(given_edge[1::2], given_edge[2::2]))
        self.assertEqual(len(pairs), given_edge[0])
        prices = []
        for at in range(0, len(pairs), 36):
            prices += told(*here, *[price(a, b) for a, b in pairs[at:at + 36]])[4:]
        self.assertEqual(sum(much for much, in prices), least_cost)

    def mixed(self, many, bound, salt):
        """Numbers that look mixed but are the same each time."""
        numbers, held = [], salt * 7919 + 12345
        for _ in range(many):
            held = (held * 1103515245 + 12345) % 2147483648
            numbers.append((held >> 12) % bound)
        return numbers

    def test_mixed_pages(self):
        apart = 0
        sizes = ((5, 5), (4, 5), (5, 4), (3, 5), (5, 3), (2, 5), (1, 5), (5, 1), (4, 4))
        for salt in range(270):
            w, h = sizes[salt % len(sizes)]
            bound, k = ((2, 1), (2, 200), (4, 60), (30, 9), (256, 1), (256, 3), (256, 255))[salt % 7]
            numbers = self.mixed(w * h, bound, salt)
            order = sorted(range(w * h), key=self.mixed(w * h, 1000003, salt + 1000).__getitem__)
            own, others = 1 + salt % 4, 1 + salt % 3
            if own + others > w * h:
                own = others = 2
            apart += self.check(w, h, numbers, k, sorted(order[:own]), sorted(order[own:own + others]))
        # Both sorts of pages are to be among them.
        self.assertGreater(apart, 30)
        self.assertLess(apart, 240)

    def test_ways_led_back(self):
        for w, h, numbers, k, inside, outside in LED_BACK:
            self.check(w, h, numbers, k, inside, outside)
            self.check(w, h, numbers, k, outside, inside)

    def test_snail(self):
        snail = [1, 1, 1, 1, 1,
                 9, 9, 9, 9, 1,
                 1, 1, 1, 9, 1,
                 1, 9, 9, 9, 1,
                 1, 1, 1, 1, 1]
        for k in (1, 20, 31, 32, 255):
            for inside, outside in (([12], [13]), ([0], [5]), ([12], [0]), ([0, 12], [5, 17]), ([13], [2, 22])):
                self.check(5, 5, snail, k, inside, outside)
                self.check(5, 5, snail, k, outside, inside)


if __name__ == "__main__":
    unittest.main()
