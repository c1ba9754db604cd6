import itertools
import unittest

from tests.helper import (
    FAR_ABOVE, FAR_BELOW, CallTest, all_rows, long_hooked_row, long_row, some_not_in_range, tight_row,
)
from twinplaces.desk import is_row


class IsRowTest(CallTest):
    def check(self, expected, d, m, h, w):
        super().check([expected], is_row, d, m, h, list(w))


class SuchRows(IsRowTest):
    def test_the_documents_example(self):
        self.check(1, 2, 3, 0, [3, 4, 2, 3, 2, 4])

    def test_written_rows(self):
        self.check(1, 1, 1, 0, [1, 1])
        self.check(1, 1, 4, 0, [1, 1, 4, 2, 3, 2, 4, 3])
        self.check(1, 1, 5, 0, [2, 4, 2, 3, 5, 4, 3, 1, 1, 5])
        self.check(1, 2, 4, 0, [5, 2, 4, 2, 3, 5, 4, 3])

    def test_written_hooked_rows(self):
        self.check(1, 2, 1, 1, [2, 0, 2])
        self.check(1, 1, 2, 1, [1, 1, 2, 0, 2])
        self.check(1, 2, 2, 1, [2, 3, 2, 0, 3])
        self.check(1, 1, 3, 1, [3, 1, 1, 3, 2, 0, 2])

    def test_every_row_of_few_numbers(self):
        for d, m, h in itertools.product(range(1, 5), range(1, 8), (0, 1)):
            for w in all_rows(d, m, h):
                self.check(1, d, m, h, w)

    def test_long_rows(self):
        self.check(1, 1, 64, 0, long_row(16))
        self.check(1, 1, 62, 1, long_hooked_row(15))
        for d in range(1, 33):
            self.check(1, d, 2 * d - 1, 0, tight_row(d))

    def test_a_row_and_its_mirror(self):
        self.check(1, 2, 3, 0, [4, 2, 3, 2, 4, 3])
        self.check(1, 1, 64, 0, long_row(16)[::-1])


class OtherRows(IsRowTest):
    def test_a_number_is_missing(self):
        self.check(0, 1, 1, 0, [7, 7])
        self.check(0, 2, 3, 0, [3, 5, 2, 3, 2, 5])
        self.check(0, 1, 4, 0, [1, 1, 4, 9, 3, 9, 4, 3])
        self.check(0, 1, 2, 1, [1, 1, 1, 0, 1])

    def test_the_first_or_the_last_number_is_missing(self):
        self.check(0, 1, 4, 0, [9, 9, 4, 2, 3, 2, 4, 3])
        self.check(0, 1, 4, 0, [1, 1, 9, 2, 3, 2, 9, 3])

    def test_a_number_stands_once(self):
        self.check(0, 2, 3, 0, [3, 4, 2, 3, 2, 9])
        self.check(0, 2, 3, 0, [3, 4, 2, 3, 9, 4])
        self.check(0, 2, 1, 1, [2, 0, 9])
        self.check(0, 1, 1, 0, [1, 9])

    def test_a_number_stands_more_than_twice(self):
        self.check(0, 2, 3, 0, [3, 4, 2, 3, 2, 3])
        self.check(0, 2, 3, 0, [2, 4, 2, 2, 2, 4])
        self.check(0, 1, 4, 0, [1, 1, 1, 1, 1, 1, 1, 1])
        self.check(0, 2, 1, 1, [2, 2, 2])

    def test_a_number_stands_at_another_distance(self):
        self.check(0, 2, 3, 0, [3, 4, 3, 2, 2, 4])
        self.check(0, 2, 3, 0, [2, 3, 4, 2, 3, 4])
        self.check(0, 1, 2, 0, [1, 1, 2, 2])
        self.check(0, 1, 2, 0, [2, 1, 1, 2])
        self.check(0, 2, 1, 0, [2, 2])

    def test_as_many_places_between_as_it_says(self):
        self.check(0, 1, 3, 0, [3, 1, 2, 1, 3, 2])

    def test_rows_of_numbers_from_elsewhere_on(self):
        self.check(0, 1, 3, 0, [3, 4, 2, 3, 2, 4])
        self.check(0, 3, 3, 0, [3, 4, 2, 3, 2, 4])

    def test_a_hooked_row_with_something_at_the_hook(self):
        for number in (1, 2, 3, 9, 255):
            self.check(0, 1, 2, 1, [1, 1, 2, number, 2])
            self.check(0, 2, 1, 1, [2, number, 2])

    def test_a_hook_at_another_place(self):
        self.check(0, 1, 1, 1, [1, 1, 0])
        self.check(0, 1, 1, 1, [0, 1, 1])
        self.check(0, 1, 2, 1, [2, 0, 2, 1, 1])
        self.check(0, 2, 3, 1, [3, 4, 2, 3, 2, 4, 0])
        self.check(0, 2, 3, 1, [0, 3, 4, 2, 3, 2, 4])
        self.check(0, 2, 3, 1, [3, 4, 2, 3, 2, 0, 4])

    def test_a_second_hook(self):
        self.check(0, 1, 2, 1, [0, 0, 2, 0, 2])
        self.check(0, 1, 2, 1, [1, 0, 2, 0, 2])
        self.check(0, 1, 2, 1, [1, 1, 0, 0, 0])

    def test_0_in_a_row_that_is_not_hooked(self):
        self.check(0, 2, 3, 0, [3, 4, 2, 3, 0, 4])
        self.check(0, 2, 3, 0, [0, 4, 2, 3, 2, 4])
        self.check(0, 2, 3, 0, [3, 4, 2, 3, 2, 0])
        self.check(0, 1, 2, 0, [2, 0, 2, 0])

    def test_every_filling_of_a_few_places(self):
        for d, m, h in ((1, 1, 0), (1, 1, 1), (2, 1, 1), (1, 2, 0), (1, 2, 1), (2, 2, 1), (1, 3, 1), (2, 3, 0)):
            rows = all_rows(d, m, h)
            standing = sorted({0, d - 1, d + m} | set(range(d, d + m)))
            for w in itertools.product(standing, repeat=2 * m + h):
                if is_row(d, m, h, list(w)) != [1 if w in rows else 0]:
                    self.fail(f"d {d}, m {m}, h {h}, w {w}")

    def test_one_place_of_a_long_row_changed(self):
        for m, h, row in ((64, 0, long_row(16)), (62, 1, long_hooked_row(15))):
            for place in range(2 * m + h):
                for number in (0, 1, 64, 255):
                    changed = row[:place] + [number] + row[place + 1:]
                    self.check(1 if changed == row else 0, 1, m, h, changed)


class Edges(IsRowTest):
    def test_d_and_m_at_their_ends(self):
        # No row can be had of so few numbers from 64 on, but the question is one in its range.
        for d, m, h in itertools.product((1, 64), (1, 64), (0, 1)):
            size = 2 * m + h
            self.check(0, d, m, h, [0] * size)
            self.check(0, d, m, h, [255] * size)
            self.check(0, d, m, h, [64] * size)
        self.check(1, 1, 1, 0, [1, 1])
        self.check(1, 1, 64, 0, long_row(16))

    def test_pairs_of_64_numbers_from_64_on(self):
        halves = list(range(64, 128)) * 2
        self.check(0, 64, 64, 0, halves)
        self.check(0, 64, 64, 1, halves[:127] + [0] + halves[127:])

    def test_64_numbers_and_a_hook(self):
        row = long_row(16)
        self.check(0, 1, 64, 1, row[:127] + [0] + row[127:])
        self.check(0, 1, 64, 1, row + [0])

    def test_0_and_255_in_w(self):
        self.check(0, 1, 1, 0, [0, 0])
        self.check(0, 1, 1, 0, [255, 255])
        self.check(0, 1, 1, 0, [1, 255])
        self.check(0, 1, 1, 0, [255, 1])
        self.check(0, 2, 1, 1, [2, 255, 2])
        self.check(0, 2, 3, 0, [3, 4, 2, 3, 2, 255])


class NotInRange(IsRowTest):
    OFF = (0, 65, -1, FAR_BELOW, FAR_ABOVE)
    WS = ([], [0], [1, 1], [2, 0, 2], [3, 4, 2, 3, 2, 4], [0] * 64, [255] * 64, long_row(8))

    def test_each_alone_and_together(self):
        choices = (((1, 2, 64), self.OFF), ((1, 3, 32, 64), self.OFF), ((0, 1), (-1, 2, FAR_BELOW, FAR_ABOVE)))
        for d, m, h in some_not_in_range(*choices):
            for w in self.WS:
                self.check(-2, d, m, h, w)


class NothingElse(IsRowTest):
    def test_nothing_is_kept_between_calls(self):
        calls = (
            (1, (2, 3, 0, [3, 4, 2, 3, 2, 4])),
            (-2, (0, 3, 0, [3, 4, 2, 3, 2, 4])),
            (0, (2, 3, 0, [3, 4, 2, 3, 2, 0])),
            (1, (1, 2, 1, [1, 1, 2, 0, 2])),
        )
        for (expected, call), (after, later) in itertools.product(calls, repeat=2):
            self.assertEqual(is_row(*call), [expected])
            self.assertEqual(is_row(*later), [after])

    def test_arguments_by_their_names(self):
        self.assertEqual(is_row(d=2, m=3, h=0, w=[3, 4, 2, 3, 2, 4]), [1])


if __name__ == "__main__":
    unittest.main()
