"""The calls. Each gives back a list of whole numbers; a refusal is its number alone."""

NOT_IN_RANGE = -2
NOT_A_ROW = -3
NO_SUCH_ROW = -5

# At the hook stands 0, so an empty place needs another sign.
EMPTY = -1


def is_within(number, least, most):
    return least <= number <= most


def places_of(number, w):
    return [place for place in range(len(w)) if w[place] == number]


def stands_as_it_says(number, w):
    places = places_of(number, w)
    return len(places) == 2 and places[1] - places[0] == number


def is_hook_right(m, h, w):
    return h == 0 or w[2 * m - 1] == 0


def all_stand_as_they_say(d, m, w):
    for number in range(d, d + m):
        if not stands_as_it_says(number, w):
            return False
    return True


def is_row(d, m, h, w):
    """Tell whether w is a row of the m numbers from d on, hooked if h is 1."""
    if not (is_within(d, 1, 64) and is_within(m, 1, 64) and is_within(h, 0, 1)):
        return [NOT_IN_RANGE]
    # w has 2 m + h places: m numbers that stand twice each, and the hook, leave none for anything else.
    if is_hook_right(m, h, w) and all_stand_as_they_say(d, m, w):
        return [1]
    return [0]


def empty_row(m, h):
    row = [EMPTY] * (2 * m + h)
    if h == 1:
        row[2 * m - 1] = 0
    return row


def can_stand(number, place, row):
    """Tell whether number, once at the empty place, can stand a second time as far behind it as it says."""
    later = place + number
    return number not in row and later < len(row) and row[later] == EMPTY


def with_pair(number, place, row):
    longer = list(row)
    longer[place] = number
    longer[place + number] = number
    return longer


def rows_with_one_more(d, m, row):
    """Fill the first empty place of row, and its partner, in every way: the greatest number first."""
    place = row.index(EMPTY)
    numbers = [number for number in range(d + m - 1, d - 1, -1) if can_stand(number, place, row)]
    return [with_pair(number, place, row) for number in numbers]


def take_next_row(d, m, waiting):
    """Take rows from the end of waiting, and put there what each can become, until one is full; None if none is."""
    while len(waiting) > 0:
        row = waiting.pop()
        if EMPTY not in row:
            return row
        # The least number was put in last and is taken first: so full rows come in their order.
        waiting.extend(rows_with_one_more(d, m, row))
    return None


def first(d, m, h):
    """Give the first row of the m numbers from d on, hooked if h is 1: how many places, and they."""
    if not (is_within(d, 1, 8) and is_within(m, 1, 12) and is_within(h, 0, 1)):
        return [NOT_IN_RANGE]
    row = take_next_row(d, m, [empty_row(m, h)])
    if row is None:
        return [NO_SUCH_ROW]
    return [len(row)] + row


def count(d, m, h):
    """Tell how many rows of the m numbers from d on there are, hooked if h is 1."""
    if not (is_within(d, 1, 8) and is_within(m, 1, 9) and is_within(h, 0, 1)):
        return [NOT_IN_RANGE]
    waiting = [empty_row(m, h)]
    found = 0
    while take_next_row(d, m, waiting) is not None:
        found += 1
    return [found]


def is_there_a_plain_row(d, m):
    # The distances must add up to what the places allow at the most, or to less by an even number;
    # where they do there is a row, and a hooked one likewise (Simpson).
    rests = (0, 1) if d % 2 == 1 else (0, 3)
    return m >= 2 * d - 1 and m % 4 in rests


def is_there_a_hooked_row(d, m):
    rests = (2, 3) if d % 2 == 1 else (1, 2)
    return m * (m - 2 * d + 1) + 2 >= 0 and m % 4 in rests


def sure(d, m):
    """Tell whether there's a row of the m numbers from d on: 1 for one that isn't hooked, and 2 for a hooked one."""
    if not (is_within(d, 1, 1000) and is_within(m, 1, 1000)):
        return [NOT_IN_RANGE]
    plain = 1 if is_there_a_plain_row(d, m) else 0
    hooked = 2 if is_there_a_hooked_row(d, m) else 0
    return [plain + hooked]


def three_of(k, m, w):
    places = places_of(k, w)
    # Places are counted from 0 elsewhere, but from 1 in a three.
    return [k, places[0] + 1 + m, places[1] + 1 + m]


def threes(m, w):
    """Give for each number of the row w, from 1 to m, itself and its two places, counted from 1 and m added."""
    if not is_within(m, 1, 64):
        return [NOT_IN_RANGE]
    if is_row(1, m, 0, w) != [1]:
        return [NOT_A_ROW]
    answer = [3 * m]
    for k in range(1, m + 1):
        answer.extend(three_of(k, m, w))
    return answer


def ring(v):
    """Tell whether there's a ring of threes of v points: 1 or 0."""
    if not is_within(v, 3, 1000):
        return [NOT_IN_RANGE]
    # Any two points can be together just once for these v alone; a ring is missing for 9 alone (Peltesohn).
    if v % 6 in (1, 3) and v != 9:
        return [1]
    return [0]
