"""What the document promises over the whole program."""
import inspect
import itertools

from tests.helper import CallTest
from twinplaces import desk
from twinplaces.desk import count, first, is_row, ring, sure, threes

INTERFACE = {
    "is_row": ["d", "m", "h", "w"],
    "first": ["d", "m", "h"],
    "count": ["d", "m", "h"],
    "sure": ["d", "m"],
    "threes": ["m", "w"],
    "ring": ["v"],
}

# Each call that answers in one of its ways: what is asked, and what is to be given back.
CALLS = (
    (is_row, (2, 3, 0, [3, 4, 2, 3, 2, 4]), [1]),
    (is_row, (1, 2, 1, [1, 1, 2, 0, 2]), [1]),
    (is_row, (2, 3, 0, [3, 4, 2, 3, 2, 0]), [0]),
    (is_row, (2, 65, 0, [3, 4, 2, 3, 2, 4]), [-2]),
    (first, (1, 4, 0), [8, 1, 1, 3, 4, 2, 3, 2, 4]),
    (first, (1, 2, 1), [5, 1, 1, 2, 0, 2]),
    (first, (1, 2, 0), [-5]),
    (first, (1, 13, 0), [-2]),
    (count, (1, 5, 0), [10]),
    (count, (1, 5, 1), [0]),
    (count, (1, 10, 0), [-2]),
    (sure, (1, 1000), [1]),
    (sure, (1, 2), [2]),
    (sure, (1000, 1000), [0]),
    (sure, (1001, 1), [-2]),
    (threes, (1, [1, 1]), [3, 1, 2, 3]),
    (threes, (1, [1, 2]), [-3]),
    (threes, (65, [1, 1]), [-2]),
    (ring, (7,), [1]),
    (ring, (9,), [0]),
    (ring, (2,), [-2]),
)


class WholeProgram(CallTest):
    def test_every_function_is_there_under_its_name(self):
        for name, parameters in INTERFACE.items():
            with self.subTest(name=name):
                self.assertEqual(list(inspect.signature(getattr(desk, name)).parameters), parameters)

    def test_each_call(self):
        self.assertEqual({call.__name__ for call, handed, expected in CALLS}, set(INTERFACE))
        for call, handed, expected in CALLS:
            self.check(expected, call, *handed)

    def test_each_call_after_each_other(self):
        for pair in itertools.product(CALLS, repeat=2):
            for call, handed, expected in pair:
                self.check(expected, call, *handed)

    def test_all_calls_forth_and_back(self):
        for call, handed, expected in CALLS + CALLS[::-1] + CALLS[1::2] + CALLS[::2]:
            self.check(expected, call, *handed)

    def test_the_module_keeps_nothing(self):
        def kept():
            return {name: repr(value) for name, value in vars(desk).items() if not name.startswith("__")}

        before = kept()
        for call, handed, expected in CALLS:
            call(*handed)
            self.assertEqual(kept(), before)
            self.assertEqual((vars(call), call.__defaults__), ({}, None))
