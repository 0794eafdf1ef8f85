"""Promise 2: like and steps."""

import itertools
import unittest

from tests.lines import GREATEST, ask, last, like, page, steps, told, within, without


def are_beside(w, one, other):
    return abs(one % w - other % w) + abs(one // w - other // w) == 1


def ways_from(w, cells, way, fits):
    """All ways that begin with this one, come to no cell twice and fit at each cell."""
    yield way
    for cell in cells:
        if cell not in way and are_beside(w, way[-1], cell) and fits(way, cell):
            yield from ways_from(w, cells, way + (cell,), fits)


def expected(w, numbers, c, t, by_steps):
    """The answer by walking each way there is, as the words tell it."""
    def fits(way, cell):
        model = way[-1] if by_steps else c
        return abs(numbers[cell] - numbers[model]) <= t

    cells = sorted({way[-1] for way in ways_from(w, range(len(numbers)), (c,), fits)})
    return [len(cells)] + cells


class TestLike(unittest.TestCase):
    def test_ordinary(self):
        numbers = [10, 12, 90,
                   13, 80, 11,
                   10, 10, 10]
        self.assertEqual(last(page(3, 3, numbers), like(0, 0)), [1, 0])
        self.assertEqual(last(page(3, 3, numbers), like(0, 2)), [2, 0, 1])
        self.assertEqual(last(page(3, 3, numbers), like(0, 3)), [7, 0, 1, 3, 5, 6, 7, 8])
        self.assertEqual(last(page(3, 3, numbers), like(2, 10)), [1, 2])
        self.assertEqual(last(page(3, 3, numbers), like(0, 80)), [9] + list(range(9)))

    def test_is_held_against_the_first_cell(self):
        self.assertEqual(last(page(5, 1, [10, 12, 14, 16, 18]), like(0, 4)), [3, 0, 1, 2])
        self.assertEqual(last(page(5, 1, [10, 12, 14, 16, 18]), like(2, 2)), [3, 1, 2, 3])
        self.assertEqual(last(page(4, 1, [10, 14, 6, 10]), like(0, 4)), [4, 0, 1, 2, 3])

    def test_below_and_above(self):
        self.assertEqual(last(page(3, 1, [7, 10, 13]), like(1, 2)), [1, 1])
        self.assertEqual(last(page(3, 1, [7, 10, 13]), like(1, 3)), [3, 0, 1, 2])
        self.assertEqual(last(page(3, 1, [6, 10, 13]), like(1, 3)), [2, 1, 2])
        self.assertEqual(last(page(3, 1, [7, 10, 14]), like(1, 3)), [2, 0, 1])


class TestSteps(unittest.TestCase):
    def test_ordinary(self):
        numbers = [10, 12, 90,
                   15, 80, 20,
                   17, 18, 19]
        self.assertEqual(last(page(3, 3, numbers), steps(0, 1)), [1, 0])
        self.assertEqual(last(page(3, 3, numbers), steps(0, 2)), [2, 0, 1])
        self.assertEqual(last(page(3, 3, numbers), steps(0, 5)), [7, 0, 1, 3, 5, 6, 7, 8])
        self.assertEqual(last(page(3, 3, numbers), steps(5, 1)), [4, 5, 6, 7, 8])
        self.assertEqual(last(page(3, 3, numbers), steps(4, 59)), [1, 4])
        self.assertEqual(last(page(3, 3, numbers), steps(4, 60)), [8, 0, 1, 3, 4, 5, 6, 7, 8])

    def test_is_held_against_the_one_before(self):
        self.assertEqual(last(page(5, 1, [10, 12, 14, 16, 18]), steps(0, 2)), [5, 0, 1, 2, 3, 4])
        self.assertEqual(last(page(4, 1, [10, 14, 6, 10]), steps(0, 4)), [2, 0, 1])


class TestBoth(unittest.TestCase):
    def test_where_they_differ(self):
        slope = page(5, 1, [0, 3, 6, 9, 12])
        self.assertEqual(told(slope, like(0, 3), steps(0, 3)), [[0], [2, 0, 1], [5, 0, 1, 2, 3, 4]])
        jumps = page(5, 1, [50, 53, 47, 53, 47])
        self.assertEqual(told(jumps, like(0, 3), steps(0, 3)), [[0], [5, 0, 1, 2, 3, 4], [2, 0, 1]])

    def test_a_way_that_turns_and_comes_back(self):
        snail = [1, 1, 1, 1, 1,
                 9, 9, 9, 9, 1,
                 1, 1, 1, 9, 1,
                 1, 9, 9, 9, 1,
                 1, 1, 1, 1, 1]
        on = [cell for cell in range(25) if snail[cell] == 1]
        off = [cell for cell in range(25) if snail[cell] == 9]
        for call in like, steps:
            for c in on:
                self.assertEqual(last(page(5, 5, snail), call(c, 7)), [len(on)] + on)
            for c in off:
                self.assertEqual(last(page(5, 5, snail), call(c, 7)), [len(off)] + off)
            self.assertEqual(last(page(5, 5, snail), call(12, 8)), [25] + list(range(25)))

    def test_a_ring_and_what_it_holds(self):
        ring = [5, 5, 5,
                5, 0, 5,
                5, 5, 5]
        for call in like, steps:
            self.assertEqual(last(page(3, 3, ring), call(8, 4)), [8, 0, 1, 2, 3, 5, 6, 7, 8])
            self.assertEqual(last(page(3, 3, ring), call(4, 4)), [1, 4])
            self.assertEqual(last(page(3, 3, ring), call(4, 5)), [9] + list(range(9)))

    def test_a_row_of_the_page_does_not_go_on_in_the_next(self):
        for call in like, steps:
            self.assertEqual(last(page(3, 2, [0, 9, 1, 1, 9, 0]), call(2, 1)), [2, 2, 5])
            self.assertEqual(last(page(3, 2, [0, 9, 1, 1, 9, 0]), call(3, 1)), [2, 0, 3])

    def test_corners_are_not_sides(self):
        for call in like, steps:
            self.assertEqual(last(page(2, 2, [1, 9, 9, 1]), call(0, 7)), [1, 0])
            self.assertEqual(last(page(2, 2, [1, 9, 9, 1]), call(2, 7)), [1, 2])

    def test_bounds_of_t(self):
        black_and_white = page(3, 1, [0, 255, 0])
        for call in like, steps:
            self.assertEqual(last(black_and_white, call(0, 0)), [1, 0])
            self.assertEqual(last(black_and_white, call(0, 254)), [1, 0])
            self.assertEqual(last(black_and_white, call(0, 255)), [3, 0, 1, 2])
            self.assertEqual(last(black_and_white, call(1, 255)), [3, 0, 1, 2])
            self.assertEqual(last(black_and_white, call(0, 256)), [-2])
            self.assertEqual(last(black_and_white, call(0, GREATEST)), [-2])

    def test_the_last_cell_and_the_one_behind_it(self):
        for call in like, steps:
            for w, h in ((1, 1), (1, 5), (5, 1), (2, 3), (5, 5)):
                here = page(w, h, range(w * h))
                self.assertEqual(last(here, call(w * h - 1, 0)), [1, w * h - 1])
                self.assertEqual(last(here, call(w * h, 0)), [-1])
                self.assertEqual(last(here, call(GREATEST, 0)), [-1])

    def test_the_refusal_told_first(self):
        for call in like, steps:
            self.assertEqual(ask(call(1, 256)), [1, -1])
            self.assertEqual(ask(call(GREATEST, GREATEST)), [1, -1])
            self.assertEqual(ask(call(0, 256)), [1, -2])

    def test_leave_all_as_it_was(self):
        here = page(2, 2, [1, 2, 9, 3])
        for call in like, steps:
            for asked in (call(0, 1), call(4, 0), call(0, 256)):
                line = (here, within(0), without(3), asked, like(0, 1), steps(0, 1), without(0), within(3))
                self.assertEqual(told(*line)[4:], [[2, 0, 1], [3, 0, 1, 3], [-6], [-6]])

    def test_seeds_do_not_count(self):
        self.assertEqual(last(page(3, 1, [1, 1, 1]), without(1), within(2), like(0, 0)), [3, 0, 1, 2])
        self.assertEqual(last(page(3, 1, [1, 1, 1]), without(1), within(2), steps(0, 0)), [3, 0, 1, 2])


class TestAgainstEveryWay(unittest.TestCase):
    def check(self, w, h, numbers, bounds):
        asked = [(call, c, t) for call in (like, steps) for c in range(w * h) for t in bounds]
        for at in range(0, len(asked), 39):
            part = asked[at:at + 39]
            given = told(page(w, h, numbers), *[call(c, t) for call, c, t in part])[1:]
            for (call, c, t), answer in zip(part, given):
                if answer != expected(w, numbers, c, t, call is steps):
                    self.fail((w, h, numbers, call.__name__, c, t, answer))

    def test_small_pages(self):
        for w, h in ((1, 1), (1, 2), (2, 1), (1, 3), (3, 1), (1, 4), (4, 1), (2, 2)):
            for numbers in itertools.product((0, 1, 2, 4), repeat=w * h):
                self.check(w, h, numbers, (0, 1, 2))

    def test_some_of_the_larger_pages(self):
        for w, h in ((2, 3), (3, 2), (3, 3), (5, 2), (2, 5)):
            every = itertools.product((3, 0, 1, 5), repeat=w * h)
            for numbers in itertools.islice(every, 0, None, 4 ** (w * h) // 40 + 1):
                self.check(w, h, numbers, (1, 2))


if __name__ == "__main__":
    unittest.main()
