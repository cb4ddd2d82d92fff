"""good: the good turns of a stand."""

import unittest

from tests.reckoning import (ALL_RULES, GOOD, TURNS, WORTH, ask, every_stand, good_by_words, rules, stand, take,
                             worths_by_words)


def good_of(numbers, hands):
    return ask(rules(*numbers), stand(*hands), GOOD)[2]


class ByHand(unittest.TestCase):
    def test_won_by_a_lost_stand_of_the_least_length(self):
        # The first turn ends it at once; 1 on 2 leads to a lost one too, but of length 2.
        self.assertEqual(good_of((4, 0, 0), (2, 1, 2, 0)), [1, 0])
        # (1, 0) on (3, 1) is lost with length 4, (3, 0) on (3, 1) with 2, and (3, 2) on (3, 1) is won.
        self.assertEqual(good_of((4, 0, 0), (3, 1, 3, 1)), [1, 1])

    def test_lost_by_a_won_stand_of_the_greatest_length(self):
        # (3, 1) on (1, 0) is won in 1, (2, 2) on (1, 0) in 3.
        self.assertEqual(good_of((4, 0, 0), (1, 0, 2, 1)), [1, 1])
        # (1, 0) on (1, 0) is won in 3, (3, 2) on (1, 0) in 1.
        self.assertEqual(good_of((4, 0, 0), (1, 0, 3, 1)), [1, 0])

    def test_for_ever_by_a_stand_that_goes_on_for_ever(self):
        # Here the one turn, there the other gives the win away.
        self.assertEqual(good_of((3, 0, 2), (1, 1, 1, 0)), [1, 0])
        self.assertEqual(good_of((3, 0, 2), (2, 0, 1, 1)), [1, 1])
        self.assertEqual(good_of((3, 0, 2), (2, 0, 2, 1)), [1, 2])

    def test_several(self):
        # Won: the first and the third lead to lost ones of length 4, the second to a won one.
        self.assertEqual(good_of((5, 0, 0), (2, 1, 4, 1)), [2, 0, 2])
        self.assertEqual(good_of((5, 1, 0), (3, 2, 3, 2)), [2, 1, 2])
        # Lost: each of the two leads to one that the next tap wins.
        self.assertEqual(good_of((3, 0, 0), (2, 0, 2, 1)), [2, 0, 1])
        # For ever: all four go on so.
        self.assertEqual(good_of((5, 1, 0), (2, 1, 4, 1)), [4, 0, 1, 2, 3])

    def test_over_and_done_has_none(self):
        for numbers in ALL_RULES:
            with self.subTest(numbers=numbers):
                self.assertEqual(good_of(numbers, (0, 0, 1, 0)), [0])
                self.assertEqual(good_of(numbers, (0, 0, 2, 2)), [0])

    def test_the_only_turn_is_good(self):
        self.assertEqual(good_of((5, 0, 0), (4, 0, 1, 0)), [1, 0])
        self.assertEqual(good_of((3, 0, 0), (1, 0, 1, 0)), [1, 0])
        self.assertEqual(good_of((5, 1, 0), (1, 0, 2, 0)), [1, 0])

    def test_good_changes_nothing(self):
        given = ask(rules(5, 0, 0), stand(2, 1, 4, 1), TURNS, GOOD, GOOD, TURNS, WORTH, take(1), GOOD)
        self.assertEqual(given[3], given[4])
        self.assertEqual(given[2], given[5])
        self.assertEqual(given[6], [1, 5])
        good = good_by_words((4, 3, 2, 1), 5, 0, 0)
        self.assertEqual(given[8], [len(good), *good])


class EveryStand(unittest.TestCase):
    def test_every_stand_by_all_rules(self):
        several = set()
        for numbers in ALL_RULES:
            known = worths_by_words(*numbers)
            stands = every_stand(numbers[0])
            # A line has at most 5 calls of good.
            for k in range(0, len(stands), 5):
                some = stands[k:k + 5]
                good = [good_by_words(hands, *numbers) for hands in some]
                several.update(known[hands][0] for hands, these in zip(some, good) if len(these) > 1)
                calls = [call for hands in some for call in (stand(*hands), GOOD)]
                with self.subTest(numbers=numbers, some=some):
                    self.assertEqual(ask(rules(*numbers), *calls)[2::2], [[len(these), *these] for these in good])
        self.assertEqual(several, {0, 1, 2})


if __name__ == "__main__":
    unittest.main()
