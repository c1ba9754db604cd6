"""Rows for the tests, made by laying down pairs and not by asking the program; and how a call is asked."""
import contextlib
import functools
import io
import itertools
import unittest

FAR_BELOW = -2147483648
FAR_ABOVE = 2147483647


class UnchangingList(list):
    """A list that fails the test when it is changed, if only for a while."""

    def refuse(self, *args, **kwargs):
        raise AssertionError("what was handed in was changed")

    __setitem__ = __delitem__ = __iadd__ = __imul__ = refuse
    append = extend = insert = pop = remove = clear = sort = reverse = refuse


class CallTest(unittest.TestCase):
    """What holds of every call: it gives back ints in a list, changes nothing, keeps nothing, prints nothing."""

    def ask(self, call, *handed):
        handed = [UnchangingList(value) if isinstance(value, list) else value for value in handed]
        before = [list(value) if isinstance(value, list) else value for value in handed]
        out, err = io.StringIO(), io.StringIO()
        with contextlib.redirect_stdout(out), contextlib.redirect_stderr(err):
            answer = call(*handed)
            given = list(answer)
            self.assertIs(type(answer), list)
            self.assertEqual({type(number) for number in answer}, {int})
            answer[0] = 99
            answer.append(7)
            self.assertEqual(call(*handed), given)
        self.assertEqual(handed, before)
        self.assertEqual((out.getvalue(), err.getvalue()), ("", ""))
        return given

    def check(self, expected, call, *handed):
        with self.subTest(handed=handed):
            self.assertEqual(self.ask(call, *handed), expected)


def some_not_in_range(*choices):
    """Every choice of one number each out of (in range, not in range) pairs, but those that are all in range."""
    for picked in itertools.product(*(inside + off for inside, off in choices)):
        if any(number not in inside for number, (inside, off) in zip(picked, choices)):
            yield picked


@functools.cache
def all_rows(d, m, h):
    """Every row of the m numbers from d on, as tuples."""
    size = 2 * m + h
    start = [None] * size
    if h == 1:
        start[2 * m - 1] = 0
    rows = [start]
    # The greatest number has the fewest places to stand at.
    for number in range(d + m - 1, d - 1, -1):
        longer = []
        for row in rows:
            for place in range(size - number):
                if row[place] is None and row[place + number] is None:
                    laid = list(row)
                    laid[place] = laid[place + number] = number
                    longer.append(laid)
        rows = longer
    return frozenset(tuple(row) for row in rows)


def lay_pairs(size, pairs):
    """A row in which each pair of places, counted from 1, holds its distance; 0 where nothing is laid."""
    row = [0] * size
    for earlier, later in pairs:
        if not 1 <= earlier < later <= size or row[earlier - 1] or row[later - 1]:
            raise ValueError("the pairs don't fit")
        row[earlier - 1] = row[later - 1] = later - earlier
    return row


def long_row(s):
    """A row of the 4 s numbers from 1 on, s at least 2 (Skolem's pairs)."""
    pairs = [(4 * s + r - 1, 8 * s - r + 1) for r in range(1, 2 * s + 1)]
    pairs += [(r, 4 * s - r - 1) for r in range(1, s - 1)]
    pairs += [(s + r + 1, 3 * s - r) for r in range(1, s - 1)]
    pairs += [(s - 1, 3 * s), (s, s + 1), (2 * s, 4 * s - 1), (2 * s + 1, 6 * s)]
    return lay_pairs(8 * s, pairs)


def long_hooked_row(s):
    """A hooked row of the 4 s + 2 numbers from 1 on, s at least 1 (O'Keefe's pairs)."""
    pairs = [(r, 4 * s - r + 2) for r in range(1, 2 * s + 1)]
    pairs += [(4 * s + r + 3, 8 * s - r + 4) for r in range(1, s)]
    pairs += [(5 * s + r + 2, 7 * s - r + 3) for r in range(1, s)]
    pairs += [(2 * s + 1, 6 * s + 2), (4 * s + 2, 6 * s + 3), (4 * s + 3, 8 * s + 5), (7 * s + 3, 7 * s + 4)]
    return lay_pairs(8 * s + 5, pairs)


def tight_row(d):
    """A row of the 2 d - 1 numbers from d on: all earlier places ahead of all later ones."""
    m = 2 * d - 1
    pairs = [(2 * j + 1, m + j + 1) for j in range(d)]
    pairs += [(2 * j + 2, m + d + j + 1) for j in range(d - 1)]
    return lay_pairs(2 * m, pairs)
