"""Promise 2: stand."""

import itertools
import unittest

from tests.reckoning import ALL_RULES, MOST, TURNS, WORTH, ask, rules, stand, take, told, turns_by_words


class Taken(unittest.TestCase):
    def test_answers_how_many_turns_there_are(self):
        self.assertEqual(ask(stand(3, 1, 2, 1)), [[6]])
        self.assertEqual(ask(rules(5, 0, 1), stand(3, 1, 2, 1)), [[0], [5]])
        self.assertEqual(ask(rules(5, 0, 0), stand(3, 1, 2, 1)), [[0], [4]])

    def test_hands_in_either_order_are_the_same_stand(self):
        wanted = ask(stand(3, 1, 4, 2), TURNS, WORTH, take(2), TURNS)
        for hands in ((1, 3, 4, 2), (3, 1, 2, 4), (1, 3, 2, 4)):
            with self.subTest(hands=hands):
                self.assertEqual(ask(stand(*hands), TURNS, WORTH, take(2), TURNS), wanted)

    def test_a_hand_that_is_out_in_either_order(self):
        wanted = ask(stand(3, 0, 2, 0), TURNS)
        self.assertEqual(wanted, [[2], [2, 0, 0, 3, 0, 2, 0, 2, 1]])
        self.assertEqual(ask(stand(0, 3, 0, 2), TURNS), wanted)

    def test_over_and_done_is_a_stand_without_turns(self):
        for full, over, shares in ALL_RULES:
            with self.subTest(full=full, over=over, shares=shares):
                given = ask(rules(full, over, shares), stand(0, 0, 0, full - 1), TURNS, take(0), WORTH)
                self.assertEqual(given, [[0], [0], [0], [-2], [2, 0]])

    def test_the_first_is_the_one_at_turn(self):
        self.assertEqual(ask(rules(5, 0, 0), stand(4, 4, 1, 1), TURNS)[2], [1, 1, 0, 4, 4])
        self.assertEqual(ask(rules(5, 0, 0), stand(1, 1, 4, 4), TURNS)[2], [1, 4, 0, 1, 1])

    def test_every_four_hands_of_full_4(self):
        for hands in itertools.product(range(5), repeat=4):
            with self.subTest(hands=hands):
                now = told(hands[:2]) + told(hands[2:])
                wanted = [len(turns_by_words(now, 4, 1, 2))]
                if hands[2:] == (0, 0):
                    wanted = [-3]
                if max(hands) >= 4:
                    wanted = [-1]
                self.assertEqual(ask(rules(4, 1, 2), stand(*hands))[1], wanted)


class Refused(unittest.TestCase):
    def test_a_hand_with_full_or_more(self):
        for full in range(3, 8):
            for place in range(4):
                for fingers in (full, full + 1, MOST):
                    with self.subTest(full=full, place=place, fingers=fingers):
                        hands = [1, 1, 1, 1]
                        hands[place] = full - 1
                        given = ask(rules(full, 0, 0), stand(*hands))[1]
                        self.assertGreater(given[0], 0)
                        hands[place] = fingers
                        self.assertEqual(ask(rules(full, 0, 0), stand(*hands))[1], [-1])

    def test_the_other_one_has_no_hand_left(self):
        for hands in ((1, 1, 0, 0), (4, 0, 0, 0), (0, 0, 0, 0)):
            with self.subTest(hands=hands):
                self.assertEqual(ask(stand(*hands)), [[-3]])

    def test_of_both_the_one_told_first(self):
        for hands in ((5, 0, 0, 0), (0, 5, 0, 0), (MOST, MOST, 0, 0)):
            with self.subTest(hands=hands):
                self.assertEqual(ask(stand(*hands)), [[-1]])

    def test_full_is_that_of_the_rules_now(self):
        given = ask(stand(5, 1, 1, 1), rules(6, 0, 0), stand(5, 1, 1, 1), rules(3, 0, 0), stand(3, 1, 1, 1))
        self.assertEqual(given, [[-1], [0], [2], [0], [-1]])

    def test_all_is_as_it_was(self):
        ahead = [rules(5, 1, 1), stand(3, 2, 4, 1)]
        asked = [TURNS, WORTH, take(3), TURNS]
        wanted = ask(*ahead, *asked)[2:]
        for hands, refusal in (((5, 1, 1, 1), -1), ((1, 1, 1, MOST), -1), ((1, 1, 0, 0), -3), ((0, 0, 0, 0), -3)):
            with self.subTest(hands=hands):
                self.assertEqual(ask(*ahead, stand(*hands), *asked)[2:], [[refusal]] + wanted)


if __name__ == "__main__":
    unittest.main()
