"""The form of what is handed in and given back, and that nothing is kept or changed."""

import contextlib
import io
import itertools
import unittest

from cutbylikeness.page import answers
from tests.lines import (GREATEST, ask, cost, cut, edge, last, like, page, price, sharp, steps, told, wide, within,
                         without)

SHAPES = (page(2, 2, [3, 1, 2, 0]) + sharp(9) + within(0) + without(1, 3) + cut() + wide() + edge() + cost(0, 2)
          + price(1, 3))


class TestForm(unittest.TestCase):
    def test_one_call_of_each(self):
        self.assertEqual(answers([0, 2, 1, 2, 7, 9]), [1, 0])
        self.assertEqual(answers([1, 255]), [1, 0])
        self.assertEqual(answers([2, 0, 0]), [2, 1, 0])
        self.assertEqual(answers([3, 0, 0]), [2, 1, 0])
        self.assertEqual(answers([4, 1, 0]), [1, 1])
        self.assertEqual(answers([5, 1, 0]), [1, 1])
        self.assertEqual(answers([6]), [1, -4])
        self.assertEqual(answers([7]), [1, -4])
        self.assertEqual(answers([8, 1, 0]), [1, 0])
        self.assertEqual(answers([9]), [1, -4])
        self.assertEqual(answers([10, 0, 0]), [1, 0])

    def test_all_calls_in_one_line(self):
        calls = [0, 3, 2, 6, 10, 11, 12, 50, 60, 13,
                 1, 4,
                 2, 0, 2,
                 3, 0, 1,
                 4, 2, 0, 1,
                 5, 2, 4, 5,
                 6,
                 7,
                 8, 2, 0, 4,
                 9,
                 10, 1, 4,
                 2, 4, 9]
        self.assertEqual(answers(calls), [1, 0,
                                          1, 0,
                                          4, 3, 0, 1, 2,
                                          5, 4, 0, 1, 2, 5,
                                          1, 2,
                                          1, 2,
                                          4, 405, 2, 0, 1,
                                          5, 405, 3, 0, 1, 2,
                                          1, 687,
                                          7, 3, 0, 3, 1, 2, 1, 4,
                                          1, 59,
                                          2, 1, 4])

    def test_refusals_among_answers(self):
        calls = [2, 1, 0,
                 0, 2, 2, 3, 1, 2, 3,
                 0, 2, 2, 4, 1, 2, 3, 4,
                 5, 2, 3, 3,
                 5, 0,
                 1, 0,
                 4, 1, 0,
                 5, 2, 0, 3,
                 3, 3, 1]
        self.assertEqual(answers(calls), [1, -1, 1, -1, 1, 0, 1, -1, 1, 0, 1, -2, 1, 1, 1, -6, 3, 2, 2, 3])

    def test_refused_rows_are_passed_over_whole(self):
        row = [4, 2, 0] * 10
        for call in (0, 9, 9, 30), (4, 30), (5, 30), (8, 30):
            with self.subTest(call=call):
                self.assertEqual(answers(list(call) + row + [2, 0, 0]), [1, -1, 2, 1, 0])

    def test_forty_calls(self):
        calls = [page(5, 5, [9] * 25)] + [like(c % 25, 0) for c in range(39)]
        one = [26, 25] + list(range(25))
        self.assertEqual(ask(*calls), [1, 0] + one * 39)

    def test_forty_cheapest_regions(self):
        numbers = [cell * 37 % 256 for cell in range(25)]
        here = [page(5, 5, numbers), within(0, 6), without(18, 24)]
        alone = [last(*here, asked) for asked in (cut(), wide(), edge())]
        self.assertEqual(told(*here, *[cut(), wide(), edge()] * 12, cut())[3:], alone * 12 + alone[:1])
        self.assertEqual(ask(*[cut(), wide(), edge(), price(0, 0)] * 10), [1, -4, 1, -4, 1, -4, 1, 0] * 10)

    def test_forty_calls_of_all_sorts(self):
        one = [page(2, 1, [3, 4]), within(0), without(1), cut(), wide(), edge(), cost(1), price(1, 0), sharp(1),
               like(0, 0)]
        self.assertEqual(ask(*one * 4), [1, 0, 1, 1, 1, 1, 3, 254, 1, 0, 3, 254, 1, 0, 3, 1, 0, 1, 1, 254, 1, 254,
                                         1, 0, 2, 1, 0] * 4)

    def test_the_greatest_numbers_everywhere(self):
        row = [GREATEST] * 30
        refused = [page(GREATEST, GREATEST, row), page(5, 5, row[:25]), sharp(GREATEST), like(GREATEST, GREATEST),
                   like(0, GREATEST), steps(GREATEST, GREATEST), steps(0, GREATEST), within(*row), without(*row),
                   cost(*row), price(GREATEST, GREATEST), price(0, GREATEST), price(GREATEST, 0)]
        expected = [-1, -2, -2, -1, -2, -1, -2, -1, -1, -1, -1, -1, -1]
        self.assertEqual(told(*refused), [[number] for number in expected])

    def test_the_longest_line(self):
        calls = [page(6, 5, [GREATEST] * 30)] * 40
        self.assertEqual(len(list(itertools.chain(*calls))), 1360)
        self.assertEqual(ask(*calls), [1, -1] * 40)

    def test_gives_back_a_list_of_whole_numbers(self):
        given = ask(page(2, 2, [1, 1, 2, 9]), sharp(0), like(0, 1), steps(3, 256), within(0), without(0), without(),
                    cut(), without(3), cut(), wide(), edge(), cost(), cost(1, 2), price(0, 1), price(0, 3), price(4, 0))
        self.assertIs(type(given), list)
        self.assertEqual({type(number) for number in given}, {int})

    def test_price_of_equal_numbers_and_of_far_ones(self):
        given = ask(page(2, 1, [0, 255]), sharp(255), price(0, 1), page(2, 1, [5, 5]), price(0, 1))
        self.assertEqual(given, [1, 0, 1, 0, 1, 1, 1, 0, 1, 255])


class TestBeginning(unittest.TestCase):
    def test_page_is_one_by_one(self):
        self.assertEqual(ask(like(0, 0), like(1, 0)), [2, 1, 0, 1, -1])
        self.assertEqual(ask(steps(0, 255), steps(1, 255)), [2, 1, 0, 1, -1])
        self.assertEqual(ask(within(0), within(1)), [1, 1, 1, -1])
        self.assertEqual(ask(cost(0), cost(1), price(0, 0), price(0, 1)), [1, 0, 1, -1, 1, 0, 1, -1])

    def test_no_seeds(self):
        self.assertEqual(ask(within(0)), [1, 1])
        self.assertEqual(ask(without(0)), [1, 1])
        self.assertEqual(ask(cut(), wide(), edge()), [1, -4, 1, -4, 1, -4])


class TestNothingKept(unittest.TestCase):
    def test_what_is_handed_in_is_the_same_afterwards(self):
        for calls in (page(2, 2, [3, 1, 2, 0]) + sharp(9) + like(0, 1) + steps(0, 1) + within(0, 3) + without(1, 2),
                      page(2, 2, [256] * 4) + within(2, 1) + without(0) + within(0) + page(1, 1, [4]),
                      SHAPES, cut() + cost(1) + edge() + price(0, 1) + wide()):
            before = list(calls)
            first = answers(calls)
            self.assertEqual(calls, before)
            self.assertEqual(answers(calls), first)
            self.assertEqual(calls, before)

    def test_what_is_handed_in_is_never_written_to(self):
        class Untouched(list):
            def refuse(self, *args, **kwargs):
                raise AssertionError("what was handed in is changed")

            append = extend = insert = pop = remove = clear = reverse = sort = refuse
            __setitem__ = __delitem__ = __iadd__ = __imul__ = refuse

        calls = Untouched(page(2, 1, [3, 4]) + sharp(2) + like(0, 1) + steps(1, 0) + within(0) + without(1))
        self.assertEqual(answers(calls), [1, 0, 1, 0, 3, 2, 0, 1, 2, 1, 1, 1, 1, 1, 1])
        self.assertEqual(answers(Untouched(SHAPES)), answers(list(SHAPES)))

    def test_two_lines_do_not_know_of_each_other(self):
        first = page(2, 1, [3, 4]) + sharp(7) + within(0) + without(1) + cut()
        second = like(1, 0) + without(0) + cut() + page(2, 1, [3, 4]) + price(0, 1)
        for time in range(2):
            self.assertEqual(answers(second), [1, -1, 1, 1, 1, -4, 1, 0, 1, 254])
            self.assertEqual(answers(first), [1, 0, 1, 0, 1, 1, 1, 1, 3, 248, 1, 0])

    def test_what_is_given_back_is_the_callers_own(self):
        first = ask(like(0, 0))
        first.append(5)
        self.assertEqual(ask(like(0, 0)), [2, 1, 0])

    def test_prints_nothing(self):
        out, err = io.StringIO(), io.StringIO()
        with contextlib.redirect_stdout(out), contextlib.redirect_stderr(err):
            last(page(2, 1, [3, 4]), sharp(0), like(0, 1), steps(9, 9), within(0), without(0))
            answers(SHAPES)
        self.assertEqual(out.getvalue() + err.getvalue(), "")


if __name__ == "__main__":
    unittest.main()
