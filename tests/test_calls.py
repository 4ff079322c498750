"""The interface: several calls in one list, shows among them, and what is left as it was."""

import contextlib
import io
import unittest

from coinrow.turning import answers
from helper import BIG, FARTHEST, ROWS, SHOWS, ask, coins, joined, places, plans, to, turn


class Watched(list):
    """A list that may be read alone."""

    def refuse(self, *given, **named):
        raise AssertionError("the list that was handed in is changed")

    __setitem__ = __delitem__ = __iadd__ = __imul__ = refuse
    append = extend = insert = pop = remove = clear = sort = reverse = refuse


MIXED = joined([
    SHOWS,
    coins(1, 2, [1, 0, 1]),
    turn(1),
    turn(2),
    places(0),
    coins(3, 2, [1, 0, 1]),
    coins(0, 1, []),
    SHOWS,
    coins(2, 2, [0, 0, 0, 1]),
    places(3),
    turn(3),
    places(BIG),
    SHOWS,
    FARTHEST,
    to([0, 0, 1, 0]),
    ROWS,
    plans([0, 0, 1, 0]),
    to([0, 0, 1, 1]),
    plans([7, 6, 3]),
    SHOWS,
])
MIXED_ANSWERS = [
    4, 0, 1, 1, 0,
    1, 2,
    4, 2, 1, 1, 0,
    1, -2,
    3, 2, 0, 1,
    1, -1,
    1, -1,
    6, 1, 2, 3, 1, 1, 0,
    1, 4,
    3, 2, 0, 3,
    5, 1, 1, 0, 0, 0,
    1, -2,
    7, 2, 2, 4, 1, 0, 0, 0,
    6, 2, 3, 0, 0, 1, 0,
    3, 2, 0, 1,
    1, 8,
    2, 2, 4,
    1, -6,
    1, -1,
    7, 2, 2, 4, 1, 0, 0, 0,
]


class Shows(unittest.TestCase):
    def test_behind_coins(self):
        for mode in (0, 1, 2):
            self.assertEqual(
                ask(coins(mode, 1, [1]), SHOWS, coins(mode, 7, [1, 0] * 5), SHOWS)[1::2],
                [[mode, 1, 1, 1], [mode, 7, 10] + [1, 0] * 5])

    def test_behind_turns_and_refusals(self):
        self.assertEqual(
            ask(coins(0, 3, [0, 0, 1]), turn(0), SHOWS, turn(1), SHOWS, coins(0, 4, [0, 0, 1]), SHOWS),
            [[1], [2, 1, 1, 0], [0, 3, 3, 1, 1, 0], [-2], [0, 3, 3, 1, 1, 0], [-1], [0, 3, 3, 1, 1, 0]])

    def test_asking_changes_nothing(self):
        self.assertEqual(ask(coins(1, 1, [1, 0]), SHOWS, SHOWS), [[2], [1, 1, 2, 1, 0], [1, 1, 2, 1, 0]])


class SeveralCalls(unittest.TestCase):
    def test_number_by_number(self):
        self.assertEqual(answers(MIXED), MIXED_ANSWERS)

    def test_second_coins_take_the_place_of_the_first(self):
        self.assertEqual(
            ask(coins(0, 5, [1] * 10), turn(251), coins(1, 2, [0, 1, 0]), SHOWS,
                places(1), places(2), turn(0), SHOWS),
            [[252], [5, 1, 1, 1, 1, 1, 0, 0, 0, 0, 0], [2], [1, 2, 3, 0, 1, 0],
             [2, 1, 2], [-2], [1, 1, 0, 0], [1, 2, 3, 1, 0, 0]])

    def test_the_same_coins_again_are_as_they_were_laid(self):
        laid = coins(0, 1, [0, 0])
        self.assertEqual(
            ask(laid, turn(0), laid, SHOWS),
            [[2], [1, 1, 0], [2], [0, 1, 2, 0, 0]])

    def test_forty_calls(self):
        self.assertEqual(ask(*[coins(0, 1, [0] * 30)] * 40), [[-1]] * 40)
        self.assertEqual(
            ask(coins(2, 5, [0] * 10), *[turn(0)] * 39)[1:],
            ([[5] + [1] * 5 + [0] * 5, [0] * 11] * 20)[:39])

    def test_a_refused_row_is_not_taken_for_calls(self):
        for call in (coins(0, 1, [3] * 30), to([3] * 30), plans([3] * 30)):
            self.assertEqual(ask(call, SHOWS), [[-1], [0, 1, 1, 0]])


class LeftAsItWas(unittest.TestCase):
    def test_what_is_handed_in(self):
        calls = list(MIXED)
        answers(calls)
        self.assertEqual(calls, MIXED)

    def test_what_is_handed_in_not_for_a_while_either(self):
        self.assertEqual(answers(Watched(MIXED)), MIXED_ANSWERS)

    def test_the_same_list_twice(self):
        calls = list(MIXED)
        self.assertEqual(answers(calls), answers(calls))

    def test_nothing_is_kept(self):
        answers(joined([coins(2, 2, [1, 1, 1]), turn(0)]))
        self.assertEqual(answers([3, 1, 0]), [4, 0, 1, 1, 0, 2, 1, 1])
        self.assertEqual(answers([3, 1, 0]), [4, 0, 1, 1, 0, 2, 1, 1])

    def test_what_is_given_back_is_the_askers_own(self):
        answers(MIXED).clear()
        self.assertEqual(answers(MIXED), MIXED_ANSWERS)

    def test_whole_numbers_in_a_list(self):
        told = answers(MIXED)
        self.assertIs(type(told), list)
        self.assertEqual({type(number) for number in told}, {int})

    def test_nothing_is_printed(self):
        out = io.StringIO()
        with contextlib.redirect_stdout(out), contextlib.redirect_stderr(out):
            answers(MIXED)
        self.assertEqual(out.getvalue(), "")


if __name__ == "__main__":
    unittest.main()
