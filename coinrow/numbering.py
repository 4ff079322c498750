"""How the turns are numbered, and which places each of them turns."""

ANY_PLACES = 0
SIDE_BY_SIDE = 1
IN_A_RING = 2


def with_one_more(places, coins):
    """Give the set with each place that lies behind its last, in order."""
    first = places[-1] + 1 if places else 0
    return [places + [place] for place in range(first, coins)]


def sets_of_places(k, coins):
    """Give the sets of k places, each rising, in order."""
    sets = [[]]
    for step in range(k):
        longer = []
        for places in sets:
            longer.extend(with_one_more(places, coins))
        sets = longer
    return sets


def places_from(first, k, coins):
    """Give the k places side by side in a ring from the first on, rising."""
    return sorted([(first + step) % coins for step in range(k)])


def turns_by(mode, k, coins):
    """Give for each turn, in order, the places that it turns."""
    if mode == ANY_PLACES:
        return sets_of_places(k, coins)
    # A row that isn't a ring has only the turns that don't reach around its end.
    firsts = coins if mode == IN_A_RING else coins - k + 1
    return [places_from(first, k, coins) for first in range(firsts)]
