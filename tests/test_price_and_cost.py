"""Promise 3, price, and promise 2, cost: what it costs to part cells."""

import unittest

from tests.lines import GREATEST, ask, cost, cut, last, like, page, price, sharp, told, wide, within, without

SIX = page(3, 2, [10, 20, 50,
                  10, 13, 250])


class TestPrice(unittest.TestCase):
    def test_beside_in_a_row(self):
        self.assertEqual(told(SIX, price(0, 1), price(1, 2), price(3, 4), price(4, 5))[1:],
                         [[245], [225], [252], [18]])

    def test_beside_in_a_column(self):
        self.assertEqual(told(SIX, price(0, 3), price(1, 4), price(2, 5))[1:], [[255], [248], [55]])

    def test_one_row_and_one_column(self):
        for here in (page(5, 1, [0, 1, 3, 6, 10]), page(1, 5, [0, 1, 3, 6, 10])):
            self.assertEqual(told(here, price(0, 1), price(1, 2), price(2, 3), price(3, 4))[1:],
                             [[254], [253], [252], [251]])
            self.assertEqual(told(here, price(0, 2), price(4, 2), price(0, 4))[1:], [[0], [0], [0]])

    def test_either_way_the_same(self):
        for a in range(6):
            for b in range(6):
                given = told(SIX, sharp(2), price(a, b), price(b, a))
                self.assertEqual(given[2], given[3], (a, b))

    def test_every_pair_of_every_size(self):
        for w in range(1, 6):
            for h in range(1, 6):
                here = page(w, h, [cell * 7 for cell in range(w * h)])
                for a in range(w * h):
                    given = told(here, *[price(a, b) for b in range(w * h)])[1:]
                    for b in range(w * h):
                        beside = abs(a % w - b % w) + abs(a // w - b // w) == 1
                        self.assertEqual(given[b], [255 - 7 * abs(a - b) if beside else 0], (w, h, a, b))

    def test_the_end_of_a_row_and_the_beginning_of_the_next(self):
        self.assertEqual(told(SIX, price(2, 3), price(3, 2))[1:], [[0], [0]])
        self.assertEqual(told(page(5, 5, [9] * 25), price(4, 5), price(20, 19))[1:], [[0], [0]])

    def test_corners_are_not_sides(self):
        self.assertEqual(told(SIX, price(0, 4), price(4, 0), price(1, 3), price(2, 4))[1:], [[0]] * 4)

    def test_the_same_cell_twice(self):
        self.assertEqual(ask(price(0, 0)), [1, 0])
        self.assertEqual(told(SIX, *[price(cell, cell) for cell in range(6)])[1:], [[0]] * 6)

    def test_sharp(self):
        for k, expected in ((1, [245, 255]), (2, [235, 255]), (10, [155, 255]), (25, [5, 255]), (100, [1, 255]),
                            (255, [1, 255])):
            with self.subTest(k=k):
                self.assertEqual(ask(SIX, sharp(k), price(0, 1), price(0, 3))[4:], [1, expected[0], 1, expected[1]])

    def test_1_is_left_at_the_least(self):
        for k, apart, expected in ((1, 253, 2), (1, 254, 1), (1, 255, 1), (2, 126, 3), (2, 127, 1), (2, 128, 1),
                                   (84, 3, 3), (85, 3, 1), (86, 3, 1), (254, 1, 1), (255, 1, 1), (253, 1, 2),
                                   (255, 255, 1), (255, 0, 255), (1, 0, 255), (1, 1, 254)):
            with self.subTest(k=k, apart=apart):
                self.assertEqual(last(sharp(k), page(2, 1, [0, apart]), price(0, 1)), [expected])
                self.assertEqual(last(sharp(k), page(1, 2, [255, 255 - apart]), price(0, 1)), [expected])

    def test_a_cell_that_there_is_not(self):
        for none in (6, 7, 25, 255, GREATEST - 1, GREATEST):
            with self.subTest(none=none):
                for cell in range(6):
                    self.assertEqual(told(SIX, price(none, cell), price(cell, none))[1:], [[-1], [-1]])
                self.assertEqual(told(SIX, price(none, none), price(none, none - 1))[1:], [[-1], [-1]])
        self.assertEqual(ask(price(0, 1), price(1, 0), price(0, GREATEST), price(GREATEST, 0)), [1, -1] * 4)
        self.assertEqual(told(page(5, 5, [0] * 25), price(24, 25), price(25, 24), price(24, 29))[1:], [[-1]] * 3)

    def test_seeds_do_not_count(self):
        self.assertEqual(told(SIX, within(0), without(1), price(0, 1), price(1, 0), price(1, 4))[3:],
                         [[245], [245], [248]])


class TestCost(unittest.TestCase):
    def test_no_cells(self):
        self.assertEqual(ask(cost()), [1, 0])
        self.assertEqual(last(SIX, cost()), [0])

    def test_all_cells(self):
        self.assertEqual(ask(cost(0)), [1, 0])
        self.assertEqual(last(SIX, cost(*range(6))), [0])
        self.assertEqual(last(page(5, 5, [7] * 25), cost(*range(25))), [0])

    def test_one_cell(self):
        self.assertEqual(told(SIX, cost(0), cost(1), cost(2), cost(3), cost(4), cost(5))[1:],
                         [[245 + 255], [245 + 225 + 248], [225 + 55], [255 + 252], [252 + 248 + 18], [55 + 18]])

    def test_some_cells(self):
        self.assertEqual(last(SIX, cost(0, 1)), [255 + 225 + 248])
        self.assertEqual(last(SIX, cost(0, 3)), [245 + 252])
        self.assertEqual(last(SIX, cost(2, 3)), [225 + 55 + 255 + 252])
        self.assertEqual(last(SIX, cost(0, 2, 4)), [245 + 255 + 225 + 55 + 252 + 248 + 18])
        self.assertEqual(last(SIX, cost(0, 1, 2, 3, 4)), [55 + 18])

    def test_inner_cell(self):
        self.assertEqual(last(page(3, 3, [0, 1, 0, 2, 10, 4, 0, 8, 0]), cost(4)), [246 + 247 + 249 + 253])

    def test_what_is_left_out_costs_the_same(self):
        for chosen in range(64):
            cells = [cell for cell in range(6) if chosen >> cell & 1]
            others = [cell for cell in range(6) if not chosen >> cell & 1]
            given = told(SIX, sharp(3), cost(*cells), cost(*others))
            self.assertEqual(given[2], given[3], cells)

    def test_sharp(self):
        self.assertEqual(told(SIX, sharp(25), cost(0), cost(1), sharp(255), cost(0), cost(1))[2:],
                         [[5 + 255], [5 + 1 + 80], [0], [1 + 255], [1 + 1 + 1]])

    def test_seeds_do_not_count(self):
        seeds = (SIX, within(0, 1), without(4, 5))
        self.assertEqual(told(*seeds, cost(4), cost(2, 3), cost(), cost(0, 4), cost(*range(6)))[3:],
                         [[252 + 248 + 18], [225 + 55 + 255 + 252], [0], [245 + 255 + 252 + 248 + 18], [0]])

    def test_cells_that_there_are_not(self):
        for none in (6, 7, 24, 25, GREATEST):
            with self.subTest(none=none):
                self.assertEqual(told(SIX, cost(none), cost(0, none), cost(none, 0), cost(0, none, 1))[1:], [[-1]] * 4)
        self.assertEqual(ask(cost(1), cost(0, 1), cost(GREATEST)), [1, -1] * 3)
        self.assertEqual(last(SIX, cost(*range(7))), [-1])
        self.assertEqual(last(page(5, 5, [0] * 25), cost(*range(26))), [-1])
        self.assertEqual(last(page(5, 5, [0] * 25), cost(*range(30))), [-1])
        self.assertEqual(last(page(5, 5, [0] * 25), cost(*[GREATEST] * 30)), [-1])

    def test_not_rising(self):
        for cells in ((1, 0), (0, 2, 1), (2, 0, 1), (5, 4, 3), (0, 1, 2, 3, 0)):
            with self.subTest(cells=cells):
                self.assertEqual(last(SIX, cost(*cells)), [-1])

    def test_twice(self):
        for cells in ((0, 0), (5, 5), (1, 2, 2), (1, 1, 2), (1, 2, 1), (0, 1, 2, 3, 4, 5, 5)):
            with self.subTest(cells=cells):
                self.assertEqual(last(SIX, cost(*cells)), [-1])


class TestAllIsAsItWas(unittest.TestCase):
    def test_after_price_and_cost(self):
        here = (SIX, sharp(2), within(0), without(5))
        behind = (cut(), wide(), like(0, 3), price(0, 1), cost(4), like(6, 0), within(5), without(0))
        untouched = told(*here, *behind)[4:]
        for asked in (price(0, 1), price(0, 5), price(6, 0), price(0, 6), price(GREATEST, GREATEST),
                      cost(), cost(1, 2), cost(0, 5), cost(6), cost(1, 0), cost(2, 2), cost(GREATEST)):
            with self.subTest(asked=asked):
                self.assertEqual(told(*here, asked, *behind)[5:], untouched)


if __name__ == "__main__":
    unittest.main()
