"""Writes calls as the interface wants them, and takes apart what is given back."""

from coinrow.turning import answers

BIG = 4294967295
SHOWS = [3]


def coins(mode, k, row):
    return [0, mode, k, len(row)] + row


def turn(number):
    return [1, number]


def places(number):
    return [2, number]


def joined(calls):
    return [number for call in calls for number in call]


def apart(told):
    """Cut the list that is given back into one list for each call, by the counts."""
    parts = []
    start = 0
    while start < len(told):
        end = start + 1 + told[start]
        if told[start] < 1 or end > len(told):
            raise AssertionError(f"a wrong count at {start} of {told}")
        parts.append(told[start + 1:end])
        start = end
    return parts


def ask(*calls):
    """Give the answer to each of the calls, handed in as one list."""
    parts = apart(answers(joined(calls)))
    if len(parts) != len(calls):
        raise AssertionError(f"{len(calls)} calls, but {len(parts)} answers")
    return parts


def all_k():
    """Give each number of coins there may be, with each k that goes with it."""
    return [(many, k) for many in range(1, 11) for k in range(1, many + 1)]
