"""The calls. Each gives back a list of whole numbers; a refusal is its number alone."""

NOT_IN_RANGE = -2


def is_within(number, least, most):
    return least <= number <= most


def places_of(number, w):
    return [place for place in range(len(w)) if w[place] == number]


def stands_as_it_says(number, w):
    places = places_of(number, w)
    return len(places) == 2 and places[1] - places[0] == number


def is_hook_right(m, h, w):
    return h == 0 or w[2 * m - 1] == 0


def all_stand_as_they_say(d, m, w):
    for number in range(d, d + m):
        if not stands_as_it_says(number, w):
            return False
    return True


def is_row(d, m, h, w):
    """Tell whether w is a row of the m numbers from d on, hooked if h is 1."""
    if not (is_within(d, 1, 64) and is_within(m, 1, 64) and is_within(h, 0, 1)):
        return [NOT_IN_RANGE]
    # w has 2 m + h places: m numbers that stand twice each, and the hook, leave none for anything else.
    if is_hook_right(m, h, w) and all_stand_as_they_say(d, m, w):
        return [1]
    return [0]
