"""The calls on one row of coins, read from one list and answered in one list."""

from coinrow.numbering import ANY_PLACES, IN_A_RING, SIDE_BY_SIDE, turns_by

COINS = 0
TURN = 1
PLACES = 2

MOST_COINS = 10

NOT_COINS = -1
NO_SUCH_TURN = -2

# By a call's number: how many whole numbers it has ahead of its row, if it has one.
# A call that isn't here fails at once, as nobody could tell where the next one begins.
WHOLE_NUMBERS = {0: 2, 1: 1, 2: 1, 3: 0}


def all_coins(row):
    """Tell whether each number of the row is what a coin can show."""
    return all([shown in (0, 1) for shown in row])


def can_lie(mode, k, row):
    """Tell whether there can be such coins, turned by this mode, k at once."""
    if mode not in (ANY_PLACES, SIDE_BY_SIDE, IN_A_RING):
        return False
    return len(row) <= MOST_COINS and 1 <= k <= len(row) and all_coins(row)


def turned(row, places):
    """Give the row as it is when the coins at these places are turned over."""
    return [1 - row[place] if place in places else row[place] for place in range(len(row))]


class Coins:
    """One row of coins, with how they may be turned."""

    def __init__(self):
        self.mode = ANY_PLACES
        self.k = 1
        self.row = [0]
        self.turns = turns_by(self.mode, self.k, len(self.row))

    def lay(self, mode, k, row):
        """Answer the call coins."""
        if not can_lie(mode, k, row):
            return [NOT_COINS]
        self.mode = mode
        self.k = k
        self.row = list(row)
        self.turns = turns_by(mode, k, len(row))
        return [len(self.turns)]

    def has_turn(self, number):
        """Tell whether there is a turn of this number."""
        return number < len(self.turns)

    def turn(self, number):
        """Answer the call turn."""
        if not self.has_turn(number):
            return [NO_SUCH_TURN]
        self.row = turned(self.row, self.turns[number])
        return [sum(self.row)] + self.row

    def places(self, number):
        """Answer the call places."""
        if not self.has_turn(number):
            return [NO_SUCH_TURN]
        return [self.k] + self.turns[number]

    def shows(self):
        """Answer the call shows."""
        return [self.mode, self.k, len(self.row)] + self.row


def end_of_call(calls, start):
    """Give where the call that begins at start has its end."""
    end = start + 1 + WHOLE_NUMBERS[calls[start]]
    if calls[start] == COINS:
        return end + 1 + calls[end]
    return end


def answer(coins, call):
    """Give the numbers that this one call is answered with."""
    if call[0] == COINS:
        return coins.lay(call[1], call[2], call[4:])
    if call[0] == TURN:
        return coins.turn(call[1])
    if call[0] == PLACES:
        return coins.places(call[1])
    return coins.shows()


def answers(calls):
    """Give for each call, in order, how many numbers are answered, and then these."""
    coins = Coins()
    told = []
    start = 0
    while start < len(calls):
        end = end_of_call(calls, start)
        numbers = answer(coins, calls[start:end])
        told.append(len(numbers))
        told.extend(numbers)
        start = end
    return told
