"""The calls rows and farthest, and how many of the long calls one list may have."""

import math
import unittest

from helper import (FARTHEST, MODES, ROWS, SHOWS, all_k, ask, by_plan, coins, one_by_one, plans,
                    step_by_step, to, turn, turns_told)


def farthest_found(found):
    """Give farthest's answer from what a search of the tests' own has found."""
    most = max(len(plan) for plan, count in found.values())
    far = [row for row, (plan, count) in found.items() if len(plan) == most]
    return [most, len(far)] + list(min(far))


def rows_in_a_ring(k, many):
    """Give as many as the sentence in bold says."""
    divisor = math.gcd(many, k)
    return 2 ** (many - divisor) * (2 if k // divisor % 2 == 1 else 1)


class Rows(unittest.TestCase):
    def test_at_the_beginning(self):
        self.assertEqual(ask(ROWS), [[2]])

    def test_written_out(self):
        told = [
            (0, 2, 4, 8), (1, 2, 4, 8), (2, 2, 4, 8),
            (0, 3, 4, 16), (1, 3, 4, 4), (2, 3, 4, 16),
            (0, 4, 4, 2), (1, 4, 4, 2), (2, 4, 4, 2),
            (0, 4, 6, 32), (1, 4, 6, 8), (2, 4, 6, 16),
            (0, 5, 10, 1024), (1, 5, 10, 64), (2, 5, 10, 64),
            (0, 4, 10, 512), (1, 4, 10, 128), (2, 4, 10, 256),
        ]
        for mode, k, many, rows in told:
            with self.subTest(mode=mode, k=k, many=many):
                self.assertEqual(ask(coins(mode, k, [0] * many), ROWS)[1], [rows])

    def test_any_places(self):
        for many, k in all_k():
            # Of an even k the coins that show 1 stay even or odd; all at once there's one turn alone.
            rows = 2 if k == many else 2 ** (many - (k % 2 == 0))
            with self.subTest(k=k, many=many):
                self.assertEqual(ask(coins(0, k, [1] * many), ROWS)[1], [rows])

    def test_side_by_side(self):
        for many, k in all_k():
            with self.subTest(k=k, many=many):
                self.assertEqual(ask(coins(1, k, [0] * many), ROWS)[1], [2 ** (many - k + 1)])

    def test_in_a_ring(self):
        for many, k in all_k():
            with self.subTest(k=k, many=many):
                self.assertEqual(ask(coins(2, k, [0] * many), ROWS)[1], [rows_in_a_ring(k, many)])

    def test_what_the_coins_show_does_not_matter(self):
        for mode in MODES:
            for row in ([0, 0, 0, 0], [0, 1, 0, 0], [1, 1, 1, 1]):
                self.assertEqual(ask(coins(mode, 2, row), ROWS, turn(1), ROWS)[1::2], [[8], [8]])


class Farthest(unittest.TestCase):
    def test_at_the_beginning(self):
        self.assertEqual(ask(FARTHEST, SHOWS, turn(0), FARTHEST), [[1, 1, 1], [0, 1, 1, 0], [1, 1], [1, 1, 0]])

    def test_written_out(self):
        self.assertEqual(ask(coins(0, 3, [0, 0, 0, 0]), FARTHEST), [[4], [4, 1, 1, 1, 1, 1]])
        self.assertEqual(ask(coins(0, 2, [0, 0, 1]), FARTHEST), [[3], [1, 3, 0, 1, 0]])
        self.assertEqual(ask(coins(1, 2, [1, 0, 0, 1]), FARTHEST), [[3], [3, 1, 0, 0, 0, 0]])
        self.assertEqual(ask(coins(2, 2, [1, 0, 0, 0]), FARTHEST), [[4], [2, 3, 0, 0, 1, 0]])

    def test_no_row_needs_more_than_one_turn(self):
        for many in range(1, 11):
            for mode in MODES:
                row = [1] + [0] * (many - 1)
                with self.subTest(mode=mode, many=many):
                    self.assertEqual(
                        ask(coins(mode, many, row), FARTHEST)[1], [1, 1] + [1 - shown for shown in row])

    def test_one_at_once(self):
        for mode in MODES:
            self.assertEqual(ask(coins(mode, 1, [0, 1] * 5), FARTHEST)[1], [10, 1] + [1, 0] * 5)

    def test_side_by_side_it_is_by_every_turn(self):
        for many, k in all_k():
            row = [place % 2 for place in range(many)]
            turns = turns_told(1, k, many)
            far = by_plan(tuple(row), range(len(turns)), turns)
            with self.subTest(k=k, many=many):
                self.assertEqual(ask(coins(1, k, row), FARTHEST)[1], [len(turns), 1] + list(far))

    def test_against_plans_one_by_one(self):
        for many, k in all_k():
            for mode in MODES:
                for row in ([0] * many, [place % 3 % 2 for place in range(many)], [1] * many):
                    if many <= 4:
                        found = one_by_one(turns_told(mode, k, many), row)
                        with self.subTest(mode=mode, k=k, row=row):
                            self.assertEqual(ask(coins(mode, k, row), FARTHEST)[1], farthest_found(found))

    def test_many_coins(self):
        for many, k in all_k():
            for mode in MODES:
                row = [place * k % 5 % 2 for place in range(many)]
                if many in (7, 10):
                    found = step_by_step(turns_told(mode, k, many), row)
                    with self.subTest(mode=mode, k=k, row=row):
                        self.assertEqual(
                            ask(coins(mode, k, row), FARTHEST, ROWS)[1:], [farthest_found(found), [len(found)]])

    def test_behind_turns(self):
        for mode in MODES:
            for k in (1, 2, 3, 4):
                row = [0, 1, 1, 0]
                turns = turns_told(mode, k, 4)
                plan = [0, len(turns) - 1, len(turns) // 2]
                found = one_by_one(turns, by_plan(tuple(row), plan, turns))
                told = ask(coins(mode, k, row), *[turn(number) for number in plan], FARTHEST, ROWS)
                with self.subTest(mode=mode, k=k):
                    self.assertEqual(told[4:], [farthest_found(found), [len(found)]])


class LeftAsItWas(unittest.TestCase):
    def test_none_are_turned(self):
        for mode in MODES:
            shown = [mode, 3, 5, 0, 1, 0, 0, 1]
            told = ask(coins(mode, 3, [0, 1, 0, 0, 1]), SHOWS, ROWS, SHOWS, FARTHEST, SHOWS, ROWS, SHOWS)
            self.assertEqual(told[1::2], [shown] * 4)
            self.assertEqual(told[2], told[6])

    def test_six_in_one_list(self):
        for mode in MODES:
            for k in range(1, 11):
                row = [0, 1, 1, 0, 1, 0, 0, 0, 1, 1]
                found = step_by_step(turns_told(mode, k, 10), row)
                far = farthest_found(found)
                first, count = found[tuple(far[2:])]
                with self.subTest(mode=mode, k=k):
                    self.assertEqual(
                        ask(coins(mode, k, row), ROWS, FARTHEST, to(far[2:]), plans(far[2:]), FARTHEST, to(row))[1:],
                        [[len(found)], far, [len(first)] + first, [len(first), count], far, [0]])

    def test_the_same_six_times(self):
        for mode in MODES:
            for call in (ROWS, FARTHEST, to([1] * 10), plans([1] * 10)):
                told = ask(coins(mode, 5, [0] * 10), *[call] * 6)[1:]
                self.assertEqual(told, [told[0]] * 6)


if __name__ == "__main__":
    unittest.main()
