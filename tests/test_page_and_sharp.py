"""Promise 1: page and sharp."""

import unittest

from tests.lines import GREATEST, ask, cut, edge, last, like, page, price, sharp, steps, told, wide, within, without


class TestPage(unittest.TestCase):
    def test_every_size(self):
        for w in range(1, 6):
            for h in range(1, 6):
                with self.subTest(w=w, h=h):
                    line = (page(w, h, [8] * (w * h)), like(0, 0), like(w * h - 1, 0), like(w * h, 0))
                    all_cells = [w * h] + list(range(w * h))
                    self.assertEqual(told(*line), [[0], all_cells, all_cells, [-1]])

    def test_columns_and_rows_are_not_exchanged(self):
        numbers = [1, 9, 1, 1, 9, 9]
        self.assertEqual(last(page(3, 2, numbers), like(0, 0)), [2, 0, 3])
        self.assertEqual(last(page(2, 3, numbers), like(0, 0)), [3, 0, 2, 3])

    def test_sides_out_of_bounds(self):
        for side in (0, 6, 7, 25, 255, 256, GREATEST):
            with self.subTest(side=side):
                self.assertEqual(last(page(side, 1, [0] * min(side, 30))), [-1])
                self.assertEqual(last(page(1, side, [0] * min(side, 30))), [-1])
                self.assertEqual(last(page(side, side, [0])), [-1])
        self.assertEqual(last(page(6, 5, [0] * 30)), [-1])
        self.assertEqual(last(page(5, 6, [0] * 30)), [-1])
        self.assertEqual(last(page(5, 5, [0] * 25)), [0])
        self.assertEqual(last(page(0, 0, [])), [-1])
        self.assertEqual(last(page(0, 5, [])), [-1])
        self.assertEqual(last(page(5, 0, [])), [-1])

    def test_too_few_or_too_many_numbers(self):
        for w, h in ((1, 1), (2, 3), (5, 5), (4, 5)):
            for many in range(31):
                with self.subTest(w=w, h=h, many=many):
                    self.assertEqual(last(page(w, h, [0] * many)), [0 if many == w * h else -1])

    def test_numbers_out_of_bounds(self):
        for number, answer in ((0, 0), (1, 0), (254, 0), (255, 0), (256, -2), (GREATEST, -2)):
            for at in range(6):
                numbers = [0] * 6
                numbers[at] = number
                with self.subTest(number=number, at=at):
                    self.assertEqual(last(page(3, 2, numbers)), [answer])

    def test_the_refusal_told_first(self):
        self.assertEqual(last(page(6, 1, [256] * 6)), [-1])
        self.assertEqual(last(page(1, 0, [256])), [-1])
        self.assertEqual(last(page(2, 2, [256] * 3)), [-1])
        self.assertEqual(last(page(2, 2, [256] * 5)), [-1])
        self.assertEqual(last(page(GREATEST, GREATEST, [GREATEST])), [-1])

    def test_takes_the_seeds_away(self):
        seeds = (page(2, 2, [0] * 4), within(0, 1), without(2, 3), page(2, 2, [0] * 4))
        self.assertEqual(told(*seeds, without(0, 1), within(2, 3)), [[0], [2], [2], [0], [2], [2]])
        self.assertEqual(told(*seeds, within(2, 3), without(0, 1)), [[0], [2], [2], [0], [2], [2]])

    def test_takes_the_place_of_the_earlier_page(self):
        line = (page(3, 1, [1, 1, 1]), page(2, 1, [1, 5]), like(0, 0), like(2, 0), steps(0, 4))
        self.assertEqual(told(*line), [[0], [0], [1, 0], [-1], [2, 0, 1]])

    def test_lets_sharp_stay(self):
        self.assertEqual(told(sharp(77), page(2, 1, [3, 4]), price(0, 1)), [[0], [0], [178]])
        line = (sharp(77), page(2, 1, [3, 4]), page(1, 2, [5, 3]), price(0, 1), page(1, 1, [0]), page(2, 1, [9, 9]),
                price(0, 1), page(2, 1, [9, 8]), price(1, 0))
        self.assertEqual(told(*line), [[0], [0], [0], [101], [0], [0], [255], [0], [178]])

    def test_has_no_seeds(self):
        seeds = (page(2, 1, [3, 4]), within(0), without(1), cut())
        self.assertEqual(told(*seeds, page(2, 1, [3, 4]), cut(), wide(), edge())[3:],
                         [[254, 1, 0], [0], [-4], [-4], [-4]])

    def test_refused_leaves_all_as_it_was(self):
        for refused in (page(6, 1, [0] * 6), page(1, 6, [0] * 6), page(1, 2, [0]), page(1, 1, [256]),
                        page(2, 2, [0, 0, 0, 256])):
            with self.subTest(refused=refused):
                line = (page(2, 2, [1, 2, 9, 3]), within(0), without(3), refused,
                        like(0, 1), steps(0, 1), like(4, 0), without(0), within(3))
                self.assertEqual(told(*line)[4:], [[2, 0, 1], [3, 0, 1, 3], [-1], [-6], [-6]])

    def test_refused_leaves_sharp_as_it_was(self):
        for refused in (page(0, 1, []), page(2, 1, [0, 256]), page(2, 1, [0])):
            line = (page(2, 1, [3, 4]), sharp(77), within(0), without(1), refused, price(0, 1), cut())
            self.assertEqual(told(*line)[5:], [[178], [178, 1, 0]])


class TestSharp(unittest.TestCase):
    def test_bounds(self):
        for k, answer in ((0, -2), (1, 0), (2, 0), (254, 0), (255, 0), (256, -2), (GREATEST, -2)):
            with self.subTest(k=k):
                self.assertEqual(ask(sharp(k)), [1, answer])

    def test_is_1_at_the_beginning(self):
        self.assertEqual(last(page(2, 1, [3, 5]), price(0, 1)), [253])

    def test_is_k_and_all_else_stays(self):
        here = (page(2, 1, [3, 4]), within(0), without(1))
        for k, parting in ((255, 1), (254, 1), (253, 2), (1, 254), (9, 246)):
            self.assertEqual(told(*here, sharp(100), sharp(k), price(0, 1), cut(), like(0, 0), like(2, 0))[4:],
                             [[0], [parting], [parting, 1, 0], [1, 0], [-1]])

    def test_refused_leaves_all_as_it_was(self):
        here = (page(2, 1, [3, 4]), sharp(9), within(0), without(1))
        for k in (0, 256, GREATEST):
            self.assertEqual(told(*here, sharp(k), price(0, 1), cut(), like(0, 0), like(2, 0))[4:],
                             [[-2], [246], [246, 1, 0], [1, 0], [-1]])

    def test_seeds_stay(self):
        self.assertEqual(told(within(0), sharp(5), without(0)), [[1], [0], [-6]])


if __name__ == "__main__":
    unittest.main()
