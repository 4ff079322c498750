"""Writes calls, takes apart what is given back, and searches for plans in ways of its own."""

import itertools

from coinrow.turning import answers

BIG = 4294967295
SHOWS = [3]
ROWS = [6]
FARTHEST = [7]
MODES = (0, 1, 2)


def coins(mode, k, row):
    return [0, mode, k, len(row)] + row


def turn(number):
    return [1, number]


def places(number):
    return [2, number]


def to(row):
    return [4, len(row)] + list(row)


def plans(row):
    return [5, len(row)] + list(row)


def joined(calls):
    return [number for call in calls for number in call]


def apart(told):
    """Cut the list that is given back into one list for each call, by the counts."""
    parts = []
    start = 0
    while start < len(told):
        end = start + 1 + told[start]
        if told[start] < 1 or end > len(told):
            raise AssertionError(f"a wrong count at {start} of {told}")
        parts.append(told[start + 1:end])
        start = end
    return parts


def ask(*calls):
    """Give the answer to each of the calls, handed in as one list."""
    parts = apart(answers(joined(calls)))
    if len(parts) != len(calls):
        raise AssertionError(f"{len(calls)} calls, but {len(parts)} answers")
    return parts


def all_k():
    """Give each number of coins there may be, with each k that goes with it."""
    return [(many, k) for many in range(1, 11) for k in range(1, many + 1)]


def in_pieces(numbers, most):
    return [numbers[start:start + most] for start in range(0, len(numbers), most)]


def turns_told(mode, k, many):
    """Give the places of each turn as the document's words tell them."""
    if mode == 0:
        return [list(chosen) for chosen in itertools.combinations(range(many), k)]
    if mode == 1:
        return [list(range(first, first + k)) for first in range(many - k + 1)]
    # Twice around, cut out, and each place taken for the one it lies on.
    around = list(range(many)) * 2
    return [sorted(around[first:first + k]) for first in range(many)]


def all_rows(many):
    return [list(row) for row in itertools.product((0, 1), repeat=many)]


def turned_over(row, places_turned):
    return tuple(shown ^ (place in places_turned) for place, shown in enumerate(row))


def by_plan(row, plan, turns):
    for number in plan:
        row = turned_over(row, turns[number])
    return row


def one_by_one(turns, row):
    """Give for each row the first plan with the fewest turns, and how many there are.

    It goes through all plans, shorter ones ahead, each length in the plans' own order.
    """
    found = {}
    for many in itertools.count():
        new = {}
        for plan in itertools.product(range(len(turns)), repeat=many):
            end = by_plan(tuple(row), plan, turns)
            if end not in found:
                first, count = new.get(end, (list(plan), 0))
                new[end] = (first, count + 1)
        if not new:
            return found
        found.update(new)


def step_by_step(turns, row):
    """Give the same as one_by_one, for many coins: each step from all that the last came to."""
    found = {}
    new = {tuple(row): ([], 1)}
    while new:
        found.update(new)
        last, new = new, {}
        # The first plans ahead, so that the one that comes to a row first is its first.
        for start, (plan, count) in sorted(last.items(), key=lambda pair: pair[1][0]):
            for number, places_turned in enumerate(turns):
                end = turned_over(start, places_turned)
                if end not in found:
                    first, counted = new.get(end, (plan + [number], 0))
                    new[end] = (first, counted + count)
    return found
