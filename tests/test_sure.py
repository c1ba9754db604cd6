import itertools

from tests.helper import (
    FAR_ABOVE, FAR_BELOW, CallTest, long_hooked_row, long_row, some_not_in_range, tight_row,
)
from twinplaces.desk import first, sure


def is_there_a_row(d, m, h):
    """Find out by laying pairs, the greatest number first; taken holds a bit for each place."""
    size = 2 * m + h

    def lay(number, taken):
        if number < d:
            return True
        pairs = (1 << place | 1 << place + number for place in range(size - number))
        return any(lay(number - 1, taken | pair) for pair in pairs if not taken & pair)

    return lay(d + m - 1, 1 << 2 * m - 1 if h else 0)


def can_be(d, m, h):
    """Whether the distances can add up to the later places less the earlier ones; where they can, there's a row."""
    places = [place for place in range(2 * m + h) if h == 0 or place != 2 * m - 1]
    most = sum(places[m:]) - sum(places[:m])
    distances = sum(range(d, d + m))
    # To let a later place and an earlier one change parts takes away an even number.
    return distances <= most and (most - distances) % 2 == 0


class SmallOnes(CallTest):
    def test_written_answers(self):
        self.check([1], sure, 1, 1)
        self.check([2], sure, 1, 2)
        self.check([2], sure, 1, 3)
        self.check([1], sure, 1, 4)
        self.check([1], sure, 1, 5)
        self.check([1], sure, 2, 3)
        self.check([1], sure, 2, 4)
        self.check([0], sure, 3, 1)
        self.check([0], sure, 3, 4)
        self.check([1], sure, 3, 5)

    def test_hooked_rows_of_fewer_numbers_than_a_plain_row_needs(self):
        self.check([2], sure, 2, 1)
        self.check([2], sure, 2, 2)
        self.check([0], sure, 3, 2)
        self.check([0], sure, 3, 3)
        self.check([0], sure, 4, 6)

    def test_held_against_a_search(self):
        for d, m in itertools.product(range(1, 12), range(1, 10)):
            self.check([is_there_a_row(d, m, 0) + 2 * is_there_a_row(d, m, 1)], sure, d, m)

    def test_held_against_first(self):
        for d, m in itertools.product(range(1, 9), repeat=2):
            self.check([(first(d, m, 0) != [-5]) + 2 * (first(d, m, 1) != [-5])], sure, d, m)

    def test_arguments_by_their_names(self):
        self.assertEqual(sure(d=2, m=1), [2])


class LargeOnes(CallTest):
    def test_the_ends(self):
        self.check([1], sure, 1, 1000)
        self.check([0], sure, 1000, 1)
        self.check([0], sure, 1000, 1000)
        self.check([2], sure, 1, 999)
        self.check([1], sure, 2, 999)
        self.check([0], sure, 999, 1000)

    def test_just_as_many_numbers_as_are_needed(self):
        self.check([1], sure, 500, 999)
        self.check([1], sure, 500, 1000)
        self.check([0], sure, 500, 998)
        self.check([0], sure, 501, 1000)
        self.check([1], sure, 499, 997)
        self.check([2], sure, 499, 998)
        self.check([2], sure, 499, 999)
        self.check([0], sure, 499, 996)

    def test_every_d_and_m(self):
        # As can_be, but by sums that are worked out: a hooked row's last place is one further off.
        for d, m in itertools.product(range(1, 1001), repeat=2):
            spare = m * m - m * d - m * (m - 1) // 2
            hooked = spare + 1
            expected = (spare >= 0 and spare % 2 == 0) + 2 * (hooked >= 0 and hooked % 2 == 0)
            if sure(d, m) != [expected]:
                self.fail(f"d {d}, m {m}: not {expected}")

    def test_held_against_the_places(self):
        some = (*range(1, 24), 499, 500, 501, 502, 997, 998, 999, 1000)
        for d, m in itertools.product(some, repeat=2):
            self.check([can_be(d, m, 0) + 2 * can_be(d, m, 1)], sure, d, m)

    def test_rows_that_can_be_written_down(self):
        for s in range(2, 251):
            self.assertEqual(len(long_row(s)), 8 * s)
            self.check([1], sure, 1, 4 * s)
        for s in range(1, 250):
            self.assertEqual(len(long_hooked_row(s)), 2 * (4 * s + 2) + 1)
            self.check([2], sure, 1, 4 * s + 2)
        for d in range(1, 501):
            self.assertEqual(len(tight_row(d)), 4 * d - 2)
            self.check([1], sure, d, 2 * d - 1)


class NotInRange(CallTest):
    def test_each_alone_and_together(self):
        off = (0, -1, 1001, FAR_BELOW, FAR_ABOVE)
        for d, m in some_not_in_range(((1, 2, 500, 1000), off), ((1, 3, 999, 1000), off)):
            self.check([-2], sure, d, m)


class NothingIsKept(CallTest):
    def test_after_any_other_call(self):
        calls = (((1, 1), [1]), ((1, 2), [2]), ((1000, 1000), [0]), ((1, 1001), [-2]))
        for (handed, expected), (later, after) in itertools.product(calls, repeat=2):
            self.assertEqual(sure(*handed), expected)
            self.assertEqual(sure(*later), after)
