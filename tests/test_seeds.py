"""Promise 2: within and without."""

import unittest

from tests.lines import GREATEST, ask, last, like, page, price, sharp, steps, told, within, without

NINE = page(3, 3, [1, 2, 3, 4, 5, 6, 7, 8, 9])
SIDES = ((within, without), (without, within))


class TestSeeds(unittest.TestCase):
    def test_how_many(self):
        for side, other in SIDES:
            self.assertEqual(last(NINE, side(4)), [1])
            self.assertEqual(last(NINE, side(0, 4, 8)), [3])
            self.assertEqual(last(NINE, side(*range(9))), [9])
            self.assertEqual(last(page(5, 5, [0] * 25), side(*range(25))), [25])
            self.assertEqual(last(NINE, side(0, 1), other(2, 3, 4)), [3])

    def test_none(self):
        for side, other in SIDES:
            self.assertEqual(ask(side()), [1, 0])
            self.assertEqual(last(NINE, other(0, 8), side()), [0])

    def test_none_takes_the_earlier_ones_away(self):
        for side, other in SIDES:
            self.assertEqual(told(NINE, side(0, 8), other(8), side(), other(0, 8))[2:], [[-6], [0], [2]])

    def test_the_last_cell_and_the_one_behind_it(self):
        for side, other in SIDES:
            self.assertEqual(ask(side(0), side(1), side(GREATEST)), [1, 1, 1, -1, 1, -1])
            self.assertEqual(told(NINE, side(8), side(9), side(0, 9), side(GREATEST))[1:], [[1], [-1], [-1], [-1]])
            self.assertEqual(last(NINE, side(*range(10))), [-1])
            self.assertEqual(last(NINE, side(*range(30))), [-1])
            self.assertEqual(last(page(5, 5, [0] * 25), side(*range(26))), [-1])

    def test_a_cell_that_there_is_not_anywhere_in_the_list(self):
        for side, other in SIDES:
            self.assertEqual(last(NINE, side(9, 10)), [-1])
            self.assertEqual(last(NINE, side(9, 1)), [-1])
            self.assertEqual(last(NINE, side(1, GREATEST, 2)), [-1])

    def test_not_rising(self):
        for side, other in SIDES:
            for cells in ((1, 0), (0, 2, 1), (2, 0, 1), (8, 7, 6), (0, 1, 2, 3, 0)):
                with self.subTest(side=side.__name__, cells=cells):
                    self.assertEqual(last(NINE, side(*cells)), [-1])

    def test_twice(self):
        for side, other in SIDES:
            for cells in ((0, 0), (8, 8), (1, 2, 2), (1, 1, 2), (1, 2, 1)):
                with self.subTest(side=side.__name__, cells=cells):
                    self.assertEqual(last(NINE, side(*cells)), [-1])

    def test_a_seed_of_the_other_side(self):
        for side, other in SIDES:
            for cells in ((4,), (0, 4), (4, 8), (0, 4, 8), tuple(range(9)), (3, 5), (6,)):
                with self.subTest(side=side.__name__, cells=cells):
                    self.assertEqual(last(NINE, other(4, 5, 6), side(*cells)), [-6])
            self.assertEqual(last(NINE, other(4, 5, 6), side(0, 1, 2, 3, 7, 8)), [6])

    def test_a_seed_of_its_own_side_may_be_one_again(self):
        for side, other in SIDES:
            self.assertEqual(told(NINE, side(1, 2), side(1, 2), side(2, 3))[1:], [[2], [2], [2]])

    def test_the_refusal_told_first(self):
        for side, other in SIDES:
            for cells in ((4, 4), (4, 9), (4, 3), (9, 4), (4, GREATEST), (3, 4, 4)):
                with self.subTest(side=side.__name__, cells=cells):
                    self.assertEqual(last(NINE, other(4), side(*cells)), [-1])

    def test_new_seeds_stand_in_the_place_of_the_earlier_ones(self):
        for side, other in SIDES:
            line = (NINE, side(0, 1), side(1, 2), other(0), other(1), other(2), other(3, 4))
            self.assertEqual(told(*line)[1:], [[2], [2], [1], [-6], [-6], [2]])

    def test_refused_leaves_the_seeds_as_they_were(self):
        for side, other in SIDES:
            for refused in (side(9), side(3, 2), side(3, 3), side(7), side(3, 7), side(3, 9)):
                with self.subTest(refused=refused):
                    line = (NINE, side(0, 1), other(7), refused,
                            side(7), other(0), other(1), other(2, 3, 4, 5, 6, 8), side(7))
                    self.assertEqual(told(*line)[4:], [[-6], [-6], [-6], [6], [1]])

    def test_page_stays(self):
        for side, other in SIDES:
            for put in (side(0, 1), side(), side(9), side(1, 0), side(8)):
                line = (NINE, other(8), put, like(0, 1), steps(0, 1), like(8, 3), like(9, 0))
                self.assertEqual(told(*line)[3:], [[2, 0, 1], [3, 0, 1, 2], [4, 5, 6, 7, 8], [-1]])

    def test_sharp_stays(self):
        for side, other in SIDES:
            for cells in ((0,), (0, 1), (), (2,), (1, 0)):
                self.assertEqual(last(page(2, 1, [3, 4]), sharp(9), side(*cells), price(0, 1)), [246])


if __name__ == "__main__":
    unittest.main()
