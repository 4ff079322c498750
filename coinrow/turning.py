"""The calls on one row of coins, read from one list and answered in one list."""

from coinrow.plans import ANY_PLACES, IN_A_RING, SIDE_BY_SIDE, turns_by
from coinrow.plans import as_number, as_row, change_at, first_plan, turns_and_plans, turns_needed

COINS = 0
TURN = 1
PLACES = 2
SHOWS = 3
TO = 4
PLANS = 5
ROWS = 6

MOST_COINS = 10

NOT_COINS = -1
NO_SUCH_TURN = -2
OUT_OF_REACH = -6

# By a call's number: how many whole numbers it has ahead of its row, if it has one.
# A call that isn't here fails at once, as nobody could tell where the next one begins.
WHOLE_NUMBERS = {0: 2, 1: 1, 2: 1, 3: 0, 4: 0, 5: 0, 6: 0, 7: 0}


def all_coins(row):
    """Tell whether each number of the row is what a coin can show."""
    return all([shown in (0, 1) for shown in row])


def can_lie(mode, k, row):
    """Tell whether there can be such coins, turned by this mode, k at once."""
    if mode not in (ANY_PLACES, SIDE_BY_SIDE, IN_A_RING):
        return False
    return len(row) <= MOST_COINS and 1 <= k <= len(row) and all_coins(row)


def turned(row, places):
    """Give the row as it is when the coins at these places are turned over."""
    return [1 - row[place] if place in places else row[place] for place in range(len(row))]


class Coins:
    """One row of coins, with how they may be turned."""

    def __init__(self):
        self.mode = ANY_PLACES
        self.k = 1
        self.row = [0]
        self.turns = turns_by(self.mode, self.k, len(self.row))

    def lay(self, mode, k, row):
        """Answer the call coins."""
        if not can_lie(mode, k, row):
            return [NOT_COINS]
        self.mode = mode
        self.k = k
        self.row = list(row)
        self.turns = turns_by(mode, k, len(row))
        return [len(self.turns)]

    def has_turn(self, number):
        """Tell whether there is a turn of this number."""
        return number < len(self.turns)

    def turn(self, number):
        """Answer the call turn."""
        if not self.has_turn(number):
            return [NO_SUCH_TURN]
        self.row = turned(self.row, self.turns[number])
        return [sum(self.row)] + self.row

    def places(self, number):
        """Answer the call places."""
        if not self.has_turn(number):
            return [NO_SUCH_TURN]
        return [self.k] + self.turns[number]

    def shows(self):
        """Answer the call shows."""
        return [self.mode, self.k, len(self.row)] + self.row

    def changes(self):
        """Give for each turn, in order, the change that it makes."""
        return [change_at(places, len(self.row)) for places in self.turns]

    def change_to(self, row):
        """Give the change by which the coins come to show this row."""
        return as_number(self.row) ^ as_number(row)

    def refusal(self, row):
        """Give the number that to and plans refuse the row with, or 0 if they don't."""
        if len(row) != len(self.row) or not all_coins(row):
            return NOT_COINS
        return 0 if self.change_to(row) in turns_needed(self.changes()) else OUT_OF_REACH

    def to(self, row):
        """Answer the call to."""
        refused = self.refusal(row)
        if refused != 0:
            return [refused]
        plan = first_plan(self.change_to(row), self.changes())
        return [len(plan)] + plan

    def plans(self, row):
        """Answer the call plans."""
        refused = self.refusal(row)
        if refused != 0:
            return [refused]
        return turns_and_plans(self.change_to(row), self.changes())

    def rows(self):
        """Answer the call rows."""
        return [len(turns_needed(self.changes()))]

    def farthest(self):
        """Answer the call farthest."""
        needed = turns_needed(self.changes())
        most = max(needed.values())
        far = [as_number(self.row) ^ made for made in needed if needed[made] == most]
        return [most, len(far)] + as_row(min(far), len(self.row))


def end_of_call(calls, start):
    """Give where the call that begins at start has its end."""
    end = start + 1 + WHOLE_NUMBERS[calls[start]]
    if calls[start] in (COINS, TO, PLANS):
        return end + 1 + calls[end]
    return end


def answer(coins, call):
    """Give the numbers that this one call is answered with."""
    if call[0] == COINS:
        return coins.lay(call[1], call[2], call[4:])
    if call[0] == TURN:
        return coins.turn(call[1])
    if call[0] == PLACES:
        return coins.places(call[1])
    if call[0] == SHOWS:
        return coins.shows()
    if call[0] == TO:
        return coins.to(call[2:])
    if call[0] == PLANS:
        return coins.plans(call[2:])
    if call[0] == ROWS:
        return coins.rows()
    return coins.farthest()


def answers(calls):
    """Give for each call, in order, how many numbers are answered, and then these."""
    coins = Coins()
    told = []
    start = 0
    while start < len(calls):
        end = end_of_call(calls, start)
        numbers = answer(coins, calls[start:end])
        told.append(len(numbers))
        told.extend(numbers)
        start = end
    return told
