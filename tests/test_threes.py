import itertools

from tests.helper import FAR_ABOVE, FAR_BELOW, CallTest, all_rows, long_row, tight_row
from twinplaces.desk import threes


def expected_threes(m, w):
    """Walk the row once, from its end, so that the earlier of two places is put ahead of the later."""
    places = {}
    for place in range(2 * m, 0, -1):
        places.setdefault(w[place - 1], []).insert(0, place + m)
    return [3 * m] + [number for k in range(1, m + 1) for number in (k, *places[k])]


def long_rows():
    """Rows of many numbers from 1 on, the longest of 64, and their mirrors."""
    rows = [long_row(s) for s in range(2, 17)]
    rows += [[1, 1] + tight_row(2), [1, 1] + tight_row(2) + tight_row(5)]
    rows += [long_row(s) + tight_row(4 * s + 1) for s in range(2, 6)]
    return rows + [row[::-1] for row in rows]


class SuchRows(CallTest):
    def test_written_threes(self):
        self.check([3, 1, 2, 3], threes, 1, [1, 1])
        self.check(
            [12, 1, 5, 6, 2, 8, 10, 3, 9, 12, 4, 7, 11],
            threes, 4, [1, 1, 4, 2, 3, 2, 4, 3],
        )
        self.check(
            [15, 1, 13, 14, 2, 6, 8, 3, 9, 12, 4, 7, 11, 5, 10, 15],
            threes, 5, [2, 4, 2, 3, 5, 4, 3, 1, 1, 5],
        )

    def test_every_row_of_few_numbers(self):
        for m in range(1, 9):
            for w in all_rows(1, m, 0):
                self.check(expected_threes(m, w), threes, m, list(w))

    def test_long_rows(self):
        rows = long_rows()
        self.assertEqual(max(len(w) for w in rows), 128)
        for w in rows:
            self.check(expected_threes(len(w) // 2, w), threes, len(w) // 2, w)

    def test_a_ring_can_be_made_of_them(self):
        # Heffter: the threes hold each number up to 3 m once, and the first two of each add up to the last.
        for w in long_rows():
            m = len(w) // 2
            answer = threes(m, w)
            self.assertEqual(sorted(answer[1:]), list(range(1, 3 * m + 1)))
            for at in range(1, 3 * m + 1, 3):
                self.assertEqual(answer[at] + answer[at + 1], answer[at + 2])

    def test_arguments_by_their_names(self):
        self.assertEqual(threes(m=1, w=[1, 1]), [3, 1, 2, 3])


class OtherRows(CallTest):
    def refused(self, w):
        self.check([-3], threes, len(w) // 2, w)

    def test_a_number_is_missing(self):
        self.refused([7, 7])
        self.refused([9, 9, 4, 2, 3, 2, 4, 3])
        self.refused([1, 1, 9, 2, 3, 2, 9, 3])
        self.refused([1, 1, 4, 9, 3, 9, 4, 3])

    def test_a_number_stands_once(self):
        self.refused([1, 9])
        self.refused([9, 1])
        self.refused([1, 1, 4, 2, 3, 2, 4, 9])
        self.refused([1, 1, 4, 9, 3, 2, 4, 3])

    def test_a_number_stands_more_than_twice(self):
        self.refused([1, 1, 1, 2, 3, 2, 4, 3])
        self.refused([1, 1, 1, 1])
        self.refused([2, 2, 2, 2])
        self.refused([1, 1, 4, 2, 4, 2, 4, 4])

    def test_a_number_stands_at_another_distance(self):
        self.refused([1, 1, 2, 2])
        self.refused([2, 1, 1, 2])
        self.refused([1, 2, 3, 4, 1, 2, 3, 4])
        self.refused([1, 1, 2, 4, 3, 2, 4, 3])

    def test_a_row_of_numbers_from_elsewhere_on(self):
        self.refused([3, 4, 2, 3, 2, 4])
        self.refused(tight_row(32))

    def test_0_and_255(self):
        self.refused([0, 0])
        self.refused([255, 255])
        self.refused([1, 0])
        self.refused([1, 255])
        self.refused([2, 0, 2, 0])
        self.refused([0] * 128)
        self.refused([255] * 128)

    def test_every_filling_of_a_few_places(self):
        for m in (1, 2, 3):
            rows = all_rows(1, m, 0)
            for w in itertools.product((*range(m + 2), 255), repeat=2 * m):
                if (threes(m, list(w)) == [-3]) != (w not in rows):
                    self.fail(f"m {m}, w {w}")

    def test_one_place_of_a_row_changed(self):
        for row in ([1, 1], [1, 1, 4, 2, 3, 2, 4, 3], long_row(16)):
            for place, number in itertools.product(range(len(row)), (0, 1, 4, 64, 255)):
                if row[place] != number:
                    self.refused(row[:place] + [number] + row[place + 1:])


class NotInRange(CallTest):
    def test_whatever_w_is(self):
        ws = ([], [0], [1, 1], [1, 2], [2, 0, 2], [1, 1, 4, 2, 3, 2, 4, 3], [0] * 64, [255] * 64, long_row(8))
        for m, w in itertools.product((0, -1, 65, FAR_BELOW, FAR_ABOVE), ws):
            self.check([-2], threes, m, w)


class NothingIsKept(CallTest):
    def test_after_any_other_call(self):
        calls = (
            ((1, [1, 1]), [3, 1, 2, 3]),
            ((4, [1, 1, 4, 2, 3, 2, 4, 3]), [12, 1, 5, 6, 2, 8, 10, 3, 9, 12, 4, 7, 11]),
            ((1, [1, 2]), [-3]),
            ((0, []), [-2]),
        )
        for (handed, expected), (later, after) in itertools.product(calls, repeat=2):
            self.assertEqual(threes(*handed), expected)
            self.assertEqual(threes(*later), after)
