import itertools

from tests.helper import FAR_ABOVE, FAR_BELOW, CallTest, long_row
from twinplaces.desk import ring, threes


def turned(points, v):
    """The set of points, and those whose points are one more, two more, and so on around."""
    return {frozenset((point + by) % v for point in points) for by in range(v)}


def is_ring(sets, v):
    """Whether the sets are a ring of threes of v points, word by word."""
    pairs = [pair for points in sets for pair in itertools.combinations(sorted(points), 2)]
    return (
        all(len(points) == 3 for points in sets)
        and sorted(pairs) == list(itertools.combinations(range(v), 2))
        and all(frozenset((point + 1) % v for point in points) in sets for points in sets)
    )


def parts_of_rings(v):
    """Sets of three that come with one another, by the distances they join, where no two points are joined twice."""
    parts = {}
    for b, c in itertools.combinations(range(1, v), 2):
        sets = turned((0, b, c), v)
        pairs = [pair for points in sets for pair in itertools.combinations(sorted(points), 2)]
        if len(pairs) == len(set(pairs)):
            parts[frozenset(min(q - p, v - q + p) for p, q in pairs)] = sets
    return parts


def find_ring(v):
    """Search for parts that join every distance around the ring just once; None if there are none."""
    def join(left, parts):
        if not left:
            return []
        rarest = min(left, key=lambda distance: sum(distance in part for part in parts))
        for part in parts:
            if rarest in part:
                found = join(left - part, [other for other in parts if not other & part])
                if found is not None:
                    return [part] + found
        return None

    parts = parts_of_rings(v)
    found = join(frozenset(range(1, v // 2 + 1)), list(parts))
    return None if found is None else set().union(*(parts[part] for part in found))


class SmallRings(CallTest):
    def test_written_answers(self):
        self.check([1], ring, 3)
        self.check([0], ring, 4)
        self.check([0], ring, 5)
        self.check([0], ring, 6)
        self.check([1], ring, 7)
        self.check([0], ring, 8)
        self.check([0], ring, 9)
        self.check([1], ring, 13)
        self.check([1], ring, 15)

    def test_held_against_a_search(self):
        for v in range(3, 40):
            found = find_ring(v)
            if found is not None:
                self.assertTrue(is_ring(found, v), v)
            self.check([0 if found is None else 1], ring, v)

    def test_arguments_by_their_names(self):
        self.assertEqual(ring(v=7), [1])


class LargeRings(CallTest):
    def test_every_v(self):
        # Peltesohn: wherever each point can be with all others two by two, and all pairs be shared out by threes.
        for v in range(3, 1001):
            can_be = (v - 1) % 2 == 0 and v * (v - 1) // 2 % 3 == 0
            self.check([1 if can_be and v != 9 else 0], ring, v)

    def test_the_end_of_the_range(self):
        for v, expected in ((993, 1), (994, 0), (995, 0), (996, 0), (997, 1), (998, 0), (999, 1), (1000, 0)):
            self.check([expected], ring, v)

    def test_rings_made_of_threes(self):
        # Heffter: 0, k and the later place of k, turned around 6 m + 1 points.
        for w in ([1, 1], [1, 1, 4, 2, 3, 2, 4, 3], long_row(2), long_row(5), long_row(16)):
            m = len(w) // 2
            v = 6 * m + 1
            answer = threes(m, w)
            sets = set().union(*(turned((0, answer[at], answer[at + 2]), v) for at in range(1, 3 * m + 1, 3)))
            self.assertTrue(is_ring(sets, v), v)
            self.check([1], ring, v)


class NotInRange(CallTest):
    def test_below_and_above(self):
        for v in (2, 1, 0, -1, 1001, 1003, FAR_BELOW, FAR_ABOVE):
            self.check([-2], ring, v)
