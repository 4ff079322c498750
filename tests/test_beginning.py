"""At the beginning: one coin that shows 0, k is 1, the mode 0."""

import unittest

from coinrow.turning import answers
from helper import BIG, SHOWS, ask, places, turn


class Beginning(unittest.TestCase):
    def test_shows(self):
        self.assertEqual(answers([3]), [4, 0, 1, 1, 0])

    def test_turn(self):
        self.assertEqual(answers([1, 0]), [2, 1, 1])

    def test_places(self):
        self.assertEqual(answers([2, 0]), [2, 1, 0])

    def test_there_is_one_turn_alone(self):
        for number in (1, 2, BIG):
            with self.subTest(number=number):
                self.assertEqual(
                    ask(turn(number), places(number), SHOWS),
                    [[-2], [-2], [0, 1, 1, 0]])

    def test_the_coin_stays_turned(self):
        self.assertEqual(
            ask(turn(0), SHOWS, turn(0), SHOWS),
            [[1, 1], [0, 1, 1, 1], [0, 0], [0, 1, 1, 0]])


if __name__ == "__main__":
    unittest.main()
