"""The calls to and plans, and point 3: what they refuse with -1 and -6."""

import unittest

from helper import (BIG, FARTHEST, MODES, ROWS, SHOWS, all_k, all_rows, ask, by_plan, coins, in_pieces,
                    one_by_one, places, plans, step_by_step, to, turn, turns_told)

# As many of the calls to, plans, rows and farthest as one list may have.
MOST_SEARCHES = 6


def few_coins():
    return [(mode, k, many) for many, k in all_k() if many <= 5 for mode in MODES]


def some_row(many, seed):
    return [(place * place + seed * place + seed) % 3 % 2 for place in range(many)]


def answer_found(call, found, row):
    """Give what to or plans answers, from what a search of the tests' own has found."""
    if tuple(row) not in found:
        return [-6]
    first, count = found[tuple(row)]
    return [len(first)] + first if call == to else [len(first), count]


def told_of(call, mode, k, row, asked):
    """Ask the call for each of the rows, the coins lying as in row, so many at once as may be."""
    told = []
    for piece in in_pieces(asked, MOST_SEARCHES):
        told += ask(coins(mode, k, row), *[call(other) for other in piece])[1:]
    return told


class To(unittest.TestCase):
    def test_at_the_beginning(self):
        self.assertEqual(ask(to([0]), to([1])), [[0], [1, 0]])

    def test_any_places_written_out(self):
        self.assertEqual(
            ask(coins(0, 2, [0, 0, 0, 0]), to([1, 1, 1, 1]), to([0, 1, 1, 0]), to([0, 0, 0, 0])),
            [[6], [2, 0, 5], [1, 3], [0]])
        self.assertEqual(
            ask(coins(0, 3, [0, 0, 0, 0]), to([1, 0, 0, 0]), to([1, 1, 0, 0])),
            [[4], [3, 0, 1, 2], [2, 2, 3]])

    def test_side_by_side_written_out(self):
        self.assertEqual(
            ask(coins(1, 2, [1, 0, 0, 0]), to([0, 0, 0, 1]), to([1, 1, 1, 0]), to([1, 0, 0, 0])),
            [[3], [3, 0, 1, 2], [1, 1], [0]])

    def test_in_a_ring_written_out(self):
        self.assertEqual(
            ask(coins(2, 2, [1, 0, 0, 0]), to([0, 0, 0, 1]), to([0, 0, 1, 0]), to([0, 1, 1, 1])),
            [[4], [1, 3], [2, 0, 1], [2, 0, 2]])

    def test_a_whole_ring_is_turned_by_turn_0(self):
        for many in range(1, 11):
            self.assertEqual(
                ask(coins(2, many, [0] * many), to([1] * many), to([0] * many)), [[many], [1, 0], [0]])

    def test_the_plan_turned_by_turns(self):
        for many, k in all_k():
            for mode in MODES:
                row = some_row(many, k + 1)
                turns = turns_told(mode, k, many)
                asked = list(by_plan(tuple(row), [0, len(turns) // 2, len(turns) - 1, len(turns) // 3], turns))
                plan = ask(coins(mode, k, row), to(asked))[1]
                with self.subTest(mode=mode, k=k, row=row, asked=asked):
                    told = ask(coins(mode, k, row), *[turn(number) for number in plan[1:]], SHOWS)
                    self.assertEqual(len(told), plan[0] + 2)
                    self.assertEqual(told[-1], [mode, k, many] + asked)

    def test_none_are_turned(self):
        for mode in MODES:
            shown = [mode, 2, 4, 0, 1, 0, 0]
            self.assertEqual(
                ask(coins(mode, 2, [0, 1, 0, 0]), SHOWS, to([0, 0, 0, 1]), SHOWS, to([0, 0, 0, 1]), SHOWS)[1::2],
                [shown, shown, shown])


class Plans(unittest.TestCase):
    def test_at_the_beginning(self):
        self.assertEqual(ask(plans([0]), plans([1])), [[0, 1], [1, 1]])

    def test_any_places_written_out(self):
        # To turn all four: three ways to pair them, each in two orders.
        self.assertEqual(
            ask(coins(0, 2, [0, 0, 0, 0]), plans([1, 1, 1, 1]), plans([0, 1, 1, 0]), plans([0, 0, 0, 0])),
            [[6], [2, 6], [1, 1], [0, 1]])

    def test_side_by_side_written_out(self):
        self.assertEqual(
            ask(coins(1, 2, [1, 0, 0, 0]), plans([0, 0, 0, 1]), plans([0, 1, 1, 1]), plans([1, 0, 0, 0])),
            [[3], [3, 6], [2, 2], [0, 1]])

    def test_in_a_ring_written_out(self):
        # To the coin across: by either side, each in two orders.
        self.assertEqual(
            ask(coins(2, 2, [1, 0, 0, 0]), plans([0, 0, 1, 0]), plans([0, 0, 0, 1]), plans([1, 0, 0, 0])),
            [[4], [2, 4], [1, 1], [0, 1]])

    def test_of_a_whole_ring_each_turn_counts(self):
        for many in range(1, 11):
            for mode, count in ((0, 1), (1, 1), (2, many)):
                self.assertEqual(
                    ask(coins(mode, many, [0] * many), plans([1] * many), plans([0] * many)),
                    [[count], [1, count], [0, 1]])

    def test_another_order_is_another_plan(self):
        for mode in MODES:
            self.assertEqual(ask(coins(mode, 1, [0, 1] * 5), plans([1, 0] * 5)), [[10], [10, 3628800]])

    def test_none_are_turned(self):
        for mode in MODES:
            shown = [mode, 2, 4, 0, 1, 0, 0]
            self.assertEqual(
                ask(coins(mode, 2, [0, 1, 0, 0]), SHOWS, plans([0, 0, 0, 1]), SHOWS)[1::2], [shown, shown])


class AgainstASearch(unittest.TestCase):
    def held_against(self, found, mode, k, row, asked):
        for call in (to, plans):
            told = told_of(call, mode, k, row, asked)
            self.assertEqual(len(told), len(asked))
            for other, answer in zip(asked, told):
                with self.subTest(call=call([])[0], mode=mode, k=k, row=row, other=other):
                    self.assertEqual(answer, answer_found(call, found, other))

    def test_all_plans_one_by_one(self):
        for mode, k, many in few_coins():
            for row in ([0] * many, some_row(many, 2)):
                found = one_by_one(turns_told(mode, k, many), row)
                self.held_against(found, mode, k, row, all_rows(many))

    def test_ten_coins(self):
        for k in range(1, 11):
            for mode in MODES:
                row = some_row(10, k)
                found = step_by_step(turns_told(mode, k, 10), row)
                asked = [list(other) for other in sorted(found)][::len(found) // 6 + 1]
                self.held_against(found, mode, k, row, asked)

    def test_the_row_that_lies_there(self):
        for many, k in all_k():
            for mode in MODES:
                row = some_row(many, k)
                with self.subTest(mode=mode, k=k, row=row):
                    self.assertEqual(ask(coins(mode, k, row), to(row), plans(row))[1:], [[0], [0, 1]])


class Refused(unittest.TestCase):
    def refused(self, number, ahead, row):
        """See that to and plans refuse the row, and that what follows is as if they weren't asked."""
        behind = [SHOWS, places(0), places(BIG), ROWS, FARTHEST, turn(0), SHOWS]
        as_it_was = ask(*ahead, *behind)[len(ahead):]
        for call in (to, plans):
            with self.subTest(call=call(row)[0], ahead=ahead, row=row):
                told = ask(*ahead, call(row), *behind)[len(ahead):]
                self.assertEqual(told[0], [number])
                self.assertEqual(told[1:], as_it_was)

    def laid(self, mode, k, row):
        """Give calls behind which such coins lie as in row, by a turn."""
        turns = turns_told(mode, k, len(row))
        last = len(turns) - 1
        return [coins(mode, k, list(by_plan(tuple(row), [last], turns))), turn(last)]

    def test_not_as_many_coins(self):
        for mode in MODES:
            for many, k in ((1, 1), (2, 1), (5, 3), (9, 9), (10, 5)):
                row = some_row(many, mode)
                # The row itself, shortened or with more behind or ahead of it.
                for asked in (row[:-1], row[1:], row + [0], row + [1], [0] + row, [], (row * 30)[:30], [0] * 30):
                    self.refused(-1, self.laid(mode, k, row), asked)

    def test_at_the_beginning(self):
        for asked in ([], [0, 0], [0, 1], [2], [BIG], [0] * 30, [BIG] * 30):
            self.refused(-1, [], asked)

    def test_what_no_coin_shows(self):
        for mode in MODES:
            for many in (1, 4, 10):
                for shown in (2, 3, BIG):
                    for place in (0, many // 2, many - 1):
                        row = some_row(many, mode)
                        asked = list(row)
                        asked[place] = shown
                        self.refused(-1, self.laid(mode, 1, row), asked)

    def test_one_cannot_come_to_it(self):
        for asked in ([1, 0, 0, 0], [0, 0, 0, 1], [1, 0, 1, 1]):
            for mode in MODES:
                self.refused(-6, self.laid(mode, 2, [0, 0, 0, 0]), asked)
        for mode in MODES:
            self.refused(-6, self.laid(mode, 10, [0, 1] * 5), [0, 1] * 4 + [1, 1])
            self.refused(-6, self.laid(mode, 10, [0, 1] * 5), [1] + [0] * 9)
        self.refused(-6, self.laid(1, 3, [0, 0, 0, 0]), [0, 0, 0, 1])
        self.refused(-6, self.laid(2, 4, [0] * 10), [1, 1] + [0] * 8)

    def test_all_rows_to_which_one_cannot_come(self):
        for mode, k, many in few_coins():
            row = some_row(many, 1)
            found = one_by_one(turns_told(mode, k, many), row)
            for asked in all_rows(many):
                if tuple(asked) not in found:
                    self.refused(-6, self.laid(mode, k, row), asked)

    def test_of_both_the_one_told_first(self):
        for mode in MODES:
            # Of an even k an odd change can't be had, whatever is added to or left from it.
            ahead = self.laid(mode, 2, [0, 0, 0, 0])
            for asked in ([1, 0, 0], [1, 0, 0, 0, 0], [1], [0, 0, 1, 2], [1, 0, 0, BIG], [1, 0, 0, 4],
                          [2, 1, 0, 0], [1, 1, 1, 0, 0], [1] + [0] * 29):
                self.refused(-1, ahead, asked)


class BehindTurns(unittest.TestCase):
    def test_from_the_row_as_it_lies_then(self):
        for mode, behind in ((0, [1, 0, 1]), (1, [0, 1, 1]), (2, [0, 1, 1])):
            told = ask(coins(mode, 2, [0, 0, 0]), to(behind), plans(behind), turn(1),
                       to(behind), plans(behind), to([0, 0, 0]), plans([0, 0, 0]))
            self.assertEqual(told[1:], [[1, 1], [1, 1], [2] + behind, [0], [0, 1], [1, 1], [1, 1]])

    def test_along_a_plan(self):
        for mode in MODES:
            for k in (1, 2, 3):
                row = [0, 1, 1, 0, 1]
                turns = turns_told(mode, k, 5)
                behind = list(by_plan(tuple(row), [0, len(turns) - 1, 1], turns))
                found = one_by_one(turns, behind)
                told = ask(coins(mode, k, row), turn(0), turn(len(turns) - 1), turn(1), to(row), plans(row))
                first, count = found[tuple(row)]
                self.assertEqual(told[4:], [[len(first)] + first, [len(first), count]])


if __name__ == "__main__":
    unittest.main()
