"""The turns in their order, and what can be come to by plans of them.

A turn changes the same places whatever the coins show. So what plans do is looked at as
a change: a whole number with a bit for each place, 1 where a coin is turned over.
"""

ANY_PLACES = 0
SIDE_BY_SIDE = 1
IN_A_RING = 2


def with_one_more(places, coins):
    """Give the set with each place that lies behind its last, in order."""
    first = places[-1] + 1 if places else 0
    return [places + [place] for place in range(first, coins)]


def sets_of_places(k, coins):
    """Give the sets of k places, each rising, in order."""
    sets = [[]]
    for step in range(k):
        longer = []
        for places in sets:
            longer.extend(with_one_more(places, coins))
        sets = longer
    return sets


def places_from(first, k, coins):
    """Give the k places side by side in a ring from the first on, rising."""
    return sorted([(first + step) % coins for step in range(k)])


def turns_by(mode, k, coins):
    """Give for each turn, in order, the places that it turns."""
    if mode == ANY_PLACES:
        return sets_of_places(k, coins)
    # A row that isn't a ring has only the turns that don't reach around its end.
    firsts = coins if mode == IN_A_RING else coins - k + 1
    return [places_from(first, k, coins) for first in range(firsts)]


def as_number(row):
    """Give the row as a whole number, the first place's bit the highest."""
    # So of two rows the one that shows 0 where they first differ has the lower number.
    number = 0
    for shown in row:
        number = number * 2 + shown
    return number


def as_row(number, coins):
    """Give the row of so many coins that is this whole number."""
    return [(number >> (coins - 1 - place)) & 1 for place in range(coins)]


def change_at(places, coins):
    """Give the change that turns over the coins at these places."""
    return as_number([1 if place in places else 0 for place in range(coins)])


def turns_needed(changes):
    """Give in how few turns each change that plans can make is made, the fewer turns ahead."""
    needed = {0: 0}
    newest = [0]
    while newest:
        farther = []
        for made in newest:
            for change in changes:
                both = made ^ change
                if both not in needed:
                    needed[both] = needed[made] + 1
                    farther.append(both)
        newest = farther
    return needed


def nearer_turns(left, changes, needed):
    """Give the turns, in order, behind which what is left needs one turn less."""
    return [turn for turn in range(len(changes)) if needed[left ^ changes[turn]] < needed[left]]


def first_plan(wanted, changes):
    """Give the first of the plans with the fewest turns that make this change."""
    needed = turns_needed(changes)
    plan = []
    left = wanted
    while left != 0:
        turn = nearer_turns(left, changes, needed)[0]
        plan.append(turn)
        left = left ^ changes[turn]
    return plan


def turns_and_plans(wanted, changes):
    """Give in how few turns this change is made, and how many plans with so few make it."""
    needed = turns_needed(changes)
    counts = {0: 1}
    # The fewer turns are ahead in needed, so what is added up is counted already.
    for made in needed:
        if made != 0:
            counts[made] = sum([counts[made ^ changes[turn]] for turn in nearer_turns(made, changes, needed)])
    return [needed[wanted], counts[wanted]]
