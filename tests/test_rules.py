"""Promise 1: rules, and how a game begins."""

import unittest

from tests.reckoning import ALL_RULES, MOST, TURNS, WORTH, ask, rules, stand, take, turns_by_words


class Beginning(unittest.TestCase):
    def test_full_5_over_0_shares_2_and_one_finger_each(self):
        self.assertEqual(ask(TURNS), [[2, 2, 1, 1, 1, 1, 1, 2, 0]])

    def test_full_is_5(self):
        self.assertEqual(ask(stand(4, 4, 4, 4), stand(5, 4, 4, 4)), [[1], [-1]])

    def test_over_is_0(self):
        self.assertEqual(ask(stand(4, 0, 3, 0), TURNS)[1][:5], [3, 0, 0, 4, 0])


class Taken(unittest.TestCase):
    def test_each_of_the_rules_answers_0_and_holds(self):
        for full, over, shares in ALL_RULES:
            with self.subTest(full=full, over=over, shares=shares):
                given = ask(rules(full, over, shares), TURNS, stand(full - 1, 1, full - 1, 1), TURNS)
                first = turns_by_words((1, 1, 1, 1), full, over, shares)
                second = turns_by_words((full - 1, 1, full - 1, 1), full, over, shares)
                self.assertEqual(given[0], [0])
                self.assertEqual(given[1], [len(first)] + [n for one in first for n in one])
                self.assertEqual(given[2], [len(second)])
                self.assertEqual(given[3], [len(second)] + [n for one in second for n in one])

    def test_each_hand_has_one_finger_again(self):
        given = ask(stand(4, 2, 3, 0), rules(5, 0, 0), TURNS)
        self.assertEqual(given[1:], [[0], [1, 2, 1, 1, 1]])

    def test_the_same_rules_again_begin_anew_too(self):
        given = ask(take(0), rules(5, 0, 2), TURNS)
        self.assertEqual(given[2], [2, 2, 1, 1, 1, 1, 1, 2, 0])


class Refused(unittest.TestCase):
    wrong = [
        (0, 0, 0), (1, 0, 0), (2, 0, 0), (2, 1, 2), (8, 0, 0), (8, 1, 2), (MOST, 0, 0),
        (3, 2, 0), (5, 2, 1), (7, 2, 2), (5, MOST, 0),
        (3, 0, 3), (5, 1, 3), (7, 1, 3), (5, 0, MOST),
        (2, 2, 0), (8, 0, 3), (5, 2, 3), (2, 2, 3), (MOST, MOST, MOST),
    ]

    def test_one_or_several_out_of_bounds(self):
        for numbers in self.wrong:
            with self.subTest(numbers=numbers):
                self.assertEqual(ask(rules(*numbers)), [[-1]])

    def test_all_is_as_it_was(self):
        ahead = [rules(6, 1, 1), stand(5, 2, 4, 3)]
        asked = [TURNS, WORTH, take(1), TURNS, stand(5, 5, 5, 5), TURNS]
        wanted = ask(*ahead, *asked)[2:]
        for numbers in self.wrong:
            with self.subTest(numbers=numbers):
                self.assertEqual(ask(*ahead, rules(*numbers), *asked)[2:], [[-1]] + wanted)


if __name__ == "__main__":
    unittest.main()
