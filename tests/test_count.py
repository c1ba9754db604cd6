import itertools

from tests.helper import FAR_ABOVE, FAR_BELOW, CallTest, all_rows, some_not_in_range
from twinplaces.desk import count


class HowMany(CallTest):
    def test_written_numbers(self):
        # The rows from 1 on are Skolem's, those from 2 on Langford's, each counted with its mirror.
        for m, expected in enumerate((1, 0, 0, 6, 10, 0, 0, 504), start=1):
            self.check([expected], count, 1, m, 0)
        for m, expected in enumerate((0, 0, 2, 2, 0, 0, 52, 300), start=1):
            self.check([expected], count, 2, m, 0)

    def test_written_numbers_of_hooked_rows(self):
        self.check([0], count, 1, 1, 1)
        self.check([1], count, 1, 2, 1)
        self.check([2], count, 1, 3, 1)
        self.check([1], count, 2, 1, 1)
        self.check([1], count, 2, 2, 1)

    def test_every_question_that_is_asked(self):
        for d, m, h in itertools.product(range(1, 9), range(1, 9), (0, 1)):
            self.check([len(all_rows(d, m, h))], count, d, m, h)

    def test_m_9_is_in_its_range(self):
        self.assertEqual(count(1, 9, 0), [2656])

    def test_arguments_by_their_names(self):
        self.assertEqual(count(d=2, m=3, h=0), [2])


class NotInRange(CallTest):
    def test_each_alone_and_together(self):
        choices = (
            ((1, 2, 5, 8), (0, 9, -1, FAR_BELOW, FAR_ABOVE)),
            ((1, 3, 4, 8), (0, 10, -1, FAR_BELOW, FAR_ABOVE)),
            ((0, 1), (-1, 2, FAR_BELOW, FAR_ABOVE)),
        )
        for d, m, h in some_not_in_range(*choices):
            self.check([-2], count, d, m, h)


class NothingIsKept(CallTest):
    def test_after_any_other_call(self):
        calls = (((2, 3, 0), [2]), ((1, 3, 1), [2]), ((1, 2, 0), [0]), ((1, 4, 0), [6]), ((1, 0, 0), [-2]))
        for (handed, expected), (later, after) in itertools.product(calls, repeat=2):
            self.assertEqual(count(*handed), expected)
            self.assertEqual(count(*later), after)
