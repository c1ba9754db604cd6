import itertools

from tests.helper import FAR_ABOVE, FAR_BELOW, CallTest, all_rows, some_not_in_range
from twinplaces.desk import first, is_row


class FirstRows(CallTest):
    def test_written_rows(self):
        self.check([2, 1, 1], first, 1, 1, 0)
        self.check([8, 1, 1, 3, 4, 2, 3, 2, 4], first, 1, 4, 0)
        self.check([6, 3, 4, 2, 3, 2, 4], first, 2, 3, 0)
        self.check([10, 1, 1, 3, 4, 5, 3, 2, 4, 2, 5], first, 1, 5, 0)

    def test_written_hooked_rows(self):
        self.check([3, 2, 0, 2], first, 2, 1, 1)
        self.check([5, 1, 1, 2, 0, 2], first, 1, 2, 1)
        self.check([5, 2, 3, 2, 0, 3], first, 2, 2, 1)
        self.check([7, 1, 1, 2, 3, 2, 0, 3], first, 1, 3, 1)

    def test_written_questions_without_a_row(self):
        self.check([-5], first, 1, 1, 1)
        self.check([-5], first, 1, 2, 0)
        self.check([-5], first, 2, 1, 0)
        self.check([-5], first, 2, 3, 1)
        self.check([-5], first, 8, 1, 0)
        self.check([-5], first, 8, 8, 1)

    def test_every_question_that_is_asked(self):
        for d, m, h in itertools.product(range(1, 9), range(1, 9), (0, 1)):
            rows = all_rows(d, m, h)
            self.check([2 * m + h, *min(rows)] if rows else [-5], first, d, m, h)

    def test_what_is_given_back_is_a_row(self):
        for d, m, h in itertools.product(range(1, 9), range(1, 9), (0, 1)):
            answer = first(d, m, h)
            if answer != [-5]:
                with self.subTest(d=d, m=m, h=h):
                    self.assertEqual(answer[0], 2 * m + h)
                    self.assertEqual(is_row(d, m, h, answer[1:]), [1])

    def test_m_12_is_in_its_range(self):
        answer = first(1, 12, 0)
        self.assertEqual(answer[0], 24)
        self.assertEqual(is_row(1, 12, 0, answer[1:]), [1])

    def test_arguments_by_their_names(self):
        self.assertEqual(first(d=2, m=3, h=0), [6, 3, 4, 2, 3, 2, 4])


class NotInRange(CallTest):
    def test_each_alone_and_together(self):
        choices = (
            ((1, 2, 5, 8), (0, 9, -1, FAR_BELOW, FAR_ABOVE)),
            ((1, 3, 4, 8), (0, 13, -1, FAR_BELOW, FAR_ABOVE)),
            ((0, 1), (-1, 2, FAR_BELOW, FAR_ABOVE)),
        )
        for d, m, h in some_not_in_range(*choices):
            self.check([-2], first, d, m, h)


class NothingIsKept(CallTest):
    def test_after_any_other_call(self):
        calls = (
            ((2, 3, 0), [6, 3, 4, 2, 3, 2, 4]),
            ((1, 2, 1), [5, 1, 1, 2, 0, 2]),
            ((1, 2, 0), [-5]),
            ((0, 2, 0), [-2]),
        )
        for (handed, expected), (later, after) in itertools.product(calls, repeat=2):
            self.assertEqual(first(*handed), expected)
            self.assertEqual(first(*later), after)
