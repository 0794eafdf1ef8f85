"""What the tests share: calls in the form of the interface, and lines of them."""

import itertools

from cutbylikeness.page import answers

GREATEST = 4294967295


def page(w, h, numbers):
    return [0, w, h, len(numbers)] + list(numbers)


def sharp(k):
    return [1, k]


def like(c, t):
    return [2, c, t]


def steps(c, t):
    return [3, c, t]


def within(*cells):
    return [4, len(cells)] + list(cells)


def without(*cells):
    return [5, len(cells)] + list(cells)


def cut():
    return [6]


def wide():
    return [7]


def cost(*cells):
    return [8, len(cells)] + list(cells)


def edge():
    return [9]


def price(a, b):
    return [10, a, b]


def ask(*calls):
    """The list given back for these calls in one line."""
    return answers(list(itertools.chain(*calls)))


def told(*calls):
    """The answer to each of these calls in one line, a list each."""
    given = ask(*calls)
    parts = []
    while given:
        parts.append(given[1:1 + given[0]])
        given = given[1 + given[0]:]
    return parts


def last(*calls):
    """The answer to the last of these calls in one line."""
    return told(*calls)[-1]
