"""The calls turn and places, and point 2: what they refuse with -2."""

import unittest

from helper import BIG, SHOWS, all_k, ask, coins, in_pieces, places, turn, turns_told


class Places(unittest.TestCase):
    def test_any_places_written_out(self):
        self.assertEqual(
            ask(coins(0, 2, [0] * 4), *[places(number) for number in range(6)]),
            [[6], [2, 0, 1], [2, 0, 2], [2, 0, 3], [2, 1, 2], [2, 1, 3], [2, 2, 3]])
        self.assertEqual(
            ask(coins(0, 5, [0] * 10), places(0), places(1), places(125), places(126), places(251)),
            [[252], [5, 0, 1, 2, 3, 4], [5, 0, 1, 2, 3, 5], [5, 0, 6, 7, 8, 9],
             [5, 1, 2, 3, 4, 5], [5, 5, 6, 7, 8, 9]])

    def test_side_by_side_written_out(self):
        self.assertEqual(
            ask(coins(1, 3, [0] * 5), places(0), places(1), places(2), places(3)),
            [[3], [3, 0, 1, 2], [3, 1, 2, 3], [3, 2, 3, 4], [-2]])

    def test_in_a_ring_written_out(self):
        self.assertEqual(
            ask(coins(2, 3, [0] * 5), *[places(number) for number in range(6)]),
            [[5], [3, 0, 1, 2], [3, 1, 2, 3], [3, 2, 3, 4], [3, 0, 3, 4], [3, 0, 1, 4], [-2]])

    def test_a_whole_ring_is_the_same_from_each_place(self):
        self.assertEqual(
            ask(coins(2, 3, [0, 1, 0]), places(0), places(1), places(2), places(3)),
            [[3], [3, 0, 1, 2], [3, 0, 1, 2], [3, 0, 1, 2], [-2]])

    def test_every_turn(self):
        for many, k in all_k():
            for mode in (0, 1, 2):
                turns = turns_told(mode, k, many)
                told = []
                for piece in in_pieces(list(range(len(turns))), 39):
                    told += ask(coins(mode, k, [0] * many), *[places(number) for number in piece])[1:]
                with self.subTest(mode=mode, k=k, many=many):
                    self.assertEqual(told, [[k] + turned for turned in turns])

    def test_nothing_is_turned(self):
        self.assertEqual(
            ask(coins(1, 2, [0, 1, 1]), places(0), places(1), SHOWS),
            [[2], [2, 0, 1], [2, 1, 2], [1, 2, 3, 0, 1, 1]])


class Turn(unittest.TestCase):
    def test_any_places_written_out(self):
        self.assertEqual(
            ask(coins(0, 2, [1, 0, 0, 1]), turn(0), turn(5), turn(2), SHOWS),
            [[6], [2, 0, 1, 0, 1], [2, 0, 1, 1, 0], [4, 1, 1, 1, 1], [0, 2, 4, 1, 1, 1, 1]])

    def test_side_by_side_written_out(self):
        self.assertEqual(
            ask(coins(1, 3, [0, 1, 0, 0]), turn(0), turn(1), turn(1), SHOWS),
            [[2], [2, 1, 0, 1, 0], [3, 1, 1, 0, 1], [2, 1, 0, 1, 0], [1, 3, 4, 1, 0, 1, 0]])

    def test_in_a_ring_written_out(self):
        self.assertEqual(
            ask(coins(2, 2, [0, 0, 1]), turn(2), turn(0), turn(1), SHOWS),
            [[3], [1, 1, 0, 0], [1, 0, 1, 0], [1, 0, 0, 1], [2, 2, 3, 0, 0, 1]])

    def test_a_whole_ring_is_turned_once(self):
        self.assertEqual(
            ask(coins(2, 4, [0, 1, 1, 1]), turn(0), turn(1), turn(3)),
            [[4], [1, 1, 0, 0, 0], [3, 0, 1, 1, 1], [1, 1, 0, 0, 0]])

    def test_none_shows_1_then(self):
        self.assertEqual(ask(coins(0, 10, [1] * 10), turn(0)), [[1], [0] * 11])

    def test_every_turn_and_they_stay_turned(self):
        for many, k in all_k():
            for mode in (0, 1, 2):
                turns = turns_told(mode, k, many)
                row = [place % 3 % 2 for place in range(many)]
                for piece in in_pieces(list(range(len(turns))), 38):
                    calls = [coins(mode, k, row)] + [turn(number) for number in piece] + [SHOWS]
                    told = ask(*calls)
                    for number, answer in zip(piece, told[1:-1]):
                        row = [shown ^ (place in turns[number]) for place, shown in enumerate(row)]
                        self.assertEqual(answer, [row.count(1)] + row, (mode, k, many, number))
                    self.assertEqual(told[-1], [mode, k, many] + row)


class Refused(unittest.TestCase):
    def test_beyond_the_last_turn(self):
        for many, k in all_k():
            row = [place % 2 for place in range(many)]
            for mode in (0, 1, 2):
                turns = turns_told(mode, k, many)
                for number in (len(turns), len(turns) + 1, BIG):
                    with self.subTest(mode=mode, k=k, many=many, number=number):
                        last = [shown ^ (place in turns[-1]) for place, shown in enumerate(row)]
                        self.assertEqual(
                            ask(coins(mode, k, row), turn(number), SHOWS, places(number), SHOWS,
                                places(len(turns) - 1), turn(len(turns) - 1)),
                            [[len(turns)], [-2], [mode, k, many] + row, [-2], [mode, k, many] + row,
                             [k] + turns[-1], [last.count(1)] + last])


if __name__ == "__main__":
    unittest.main()
