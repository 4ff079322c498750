"""The call coins, and point 1: what it refuses with -1."""

import math
import unittest

from helper import BIG, SHOWS, all_k, ask, coins, places, turn


class HowManyTurns(unittest.TestCase):
    def test_written_out(self):
        told = [
            (0, 1, 1, 1), (1, 1, 1, 1), (2, 1, 1, 1),
            (0, 2, 4, 6), (1, 2, 4, 3), (2, 2, 4, 4),
            (0, 4, 4, 1), (1, 4, 4, 1), (2, 4, 4, 4),
            (0, 5, 10, 252), (1, 5, 10, 6), (2, 5, 10, 10),
            (0, 10, 10, 1), (1, 10, 10, 1), (2, 10, 10, 10),
            (0, 1, 10, 10), (1, 1, 10, 10), (2, 1, 10, 10),
        ]
        for mode, k, many, turns in told:
            with self.subTest(mode=mode, k=k, many=many):
                self.assertEqual(ask(coins(mode, k, [0] * many)), [[turns]])

    def test_every_k_of_every_number_of_coins(self):
        for many, k in all_k():
            turns = [math.comb(many, k), many - k + 1, many]
            for mode in (0, 1, 2):
                with self.subTest(mode=mode, k=k, many=many):
                    self.assertEqual(ask(coins(mode, k, [1] * many)), [[turns[mode]]])

    def test_what_the_coins_show_does_not_matter(self):
        for row in ([0, 0, 0], [0, 1, 0], [1, 1, 1]):
            with self.subTest(row=row):
                self.assertEqual(ask(coins(0, 2, row)), [[3]])


# What holds ahead of a refused call, so that anything it changed would be seen.
AHEAD = [coins(2, 2, [0, 1, 1, 0, 1]), turn(4)]
BEHIND = [SHOWS, places(4), places(5), turn(4), SHOWS]
ANSWERS_BEHIND = [
    [2, 2, 5, 1, 1, 1, 0, 0],
    [2, 0, 4],
    [-2],
    [3, 0, 1, 1, 0, 1],
    [2, 2, 5, 0, 1, 1, 0, 1],
]


class Refused(unittest.TestCase):
    def refused(self, mode, k, row):
        with self.subTest(mode=mode, k=k, row=row):
            told = ask(*AHEAD, coins(mode, k, row), *BEHIND)
            self.assertEqual(told[2], [-1])
            self.assertEqual(told[3:], ANSWERS_BEHIND)
            self.assertEqual(ask(coins(mode, k, row), SHOWS, turn(1)), [[-1], [0, 1, 1, 0], [-2]])

    def test_mode(self):
        for mode in (3, 4, BIG):
            self.refused(mode, 1, [0])
            self.refused(mode, 2, [1, 0, 1])

    def test_no_coins(self):
        for mode in (0, 1, 2):
            for k in (0, 1, BIG):
                self.refused(mode, k, [])

    def test_too_many_coins(self):
        for mode in (0, 1, 2):
            for many in (11, 12, 29, 30):
                for k in (1, 10, many):
                    self.refused(mode, k, [0, 1] * (many // 2) + [0] * (many % 2))

    def test_what_no_coin_shows(self):
        for mode in (0, 1, 2):
            for shown in (2, 3, BIG):
                self.refused(mode, 1, [shown])
                for place in (0, 4, 9):
                    row = [1, 0] * 5
                    row[place] = shown
                    self.refused(mode, 3, row)

    def test_k(self):
        for mode in (0, 1, 2):
            for many in (1, 2, 6, 10):
                for k in (0, many + 1, BIG):
                    self.refused(mode, k, [1] * many)

    def test_several_at_once(self):
        self.refused(3, 0, [])
        self.refused(BIG, BIG, [BIG] * 30)


if __name__ == "__main__":
    unittest.main()
