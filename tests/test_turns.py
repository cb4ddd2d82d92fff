"""Promise 3: turns and take."""

import unittest

from tests.reckoning import ALL_RULES, MOST, TURNS, WORTH, ask, every_stand, rules, stand, take, turns_by_words


def turns_of(numbers, hands):
    """The stands behind the turns, as turns answers them."""
    given = ask(rules(*numbers), stand(*hands), TURNS)
    answer = given[2]
    stands = [tuple(answer[k:k + 4]) for k in range(1, len(answer), 4)]
    assert given[1] == [answer[0]] == [len(stands)]
    return stands


class Taps(unittest.TestCase):
    def test_order_by_own_hand_then_by_the_others(self):
        self.assertEqual(turns_of((7, 0, 0), (3, 1, 2, 1)),
                         [(5, 1, 3, 1), (4, 2, 3, 1), (3, 1, 3, 1), (2, 2, 3, 1)])

    def test_just_full_is_out_by_over_0_and_over_1(self):
        self.assertEqual(turns_of((5, 0, 0), (3, 0, 2, 1)), [(1, 0, 3, 0), (4, 2, 3, 0)])
        self.assertEqual(turns_of((5, 1, 0), (3, 0, 2, 1)), [(1, 0, 3, 0), (4, 2, 3, 0)])

    def test_more_than_full_is_out_by_over_0(self):
        self.assertEqual(turns_of((5, 0, 0), (4, 1, 3, 2)),
                         [(2, 0, 4, 1), (3, 0, 4, 1), (4, 2, 4, 1), (3, 3, 4, 1)])

    def test_more_than_full_begins_anew_by_over_1(self):
        self.assertEqual(turns_of((5, 1, 0), (4, 1, 3, 2)),
                         [(2, 2, 4, 1), (3, 1, 4, 1), (4, 2, 4, 1), (3, 3, 4, 1)])

    def test_one_fewer_than_full_is_neither(self):
        for over in (0, 1):
            self.assertEqual(turns_of((5, over, 0), (2, 0, 2, 0)), [(4, 0, 2, 0)])

    def test_of_two_that_make_the_same_stand_the_first_counts(self):
        self.assertEqual(turns_of((5, 0, 0), (4, 3, 2, 0)), [(0, 0, 4, 3)])
        self.assertEqual(turns_of((5, 0, 0), (2, 2, 3, 1)), [(1, 0, 2, 2), (3, 3, 2, 2)])
        # 3 and 1 both put the 4 out; the tap with 1 is left out, between two that count.
        self.assertEqual(turns_of((5, 0, 0), (3, 1, 4, 1)), [(1, 0, 3, 1), (4, 4, 3, 1), (4, 2, 3, 1)])

    def test_a_hand_that_is_out_does_not_tap_and_is_not_tapped(self):
        self.assertEqual(turns_of((5, 0, 0), (2, 0, 1, 1)), [(3, 1, 2, 0)])
        self.assertEqual(turns_of((5, 0, 0), (2, 1, 1, 0)), [(3, 0, 2, 1), (2, 0, 2, 1)])


class Shares(unittest.TestCase):
    def shares_of(self, numbers, hands):
        taps = turns_of((numbers[0], numbers[1], 0), hands)
        both = turns_of(numbers, hands)
        self.assertEqual(both[:len(taps)], taps)
        self.assertTrue(all(one[:2] == hands[2:] for one in both[len(taps):]))
        return [one[2:] for one in both[len(taps):]]

    def test_by_the_hand_told_first_the_fewest_first(self):
        self.assertEqual(self.shares_of((7, 0, 2), (5, 1, 2, 1)), [(3, 3), (4, 2), (6, 0)])
        self.assertEqual(self.shares_of((7, 1, 1), (5, 1, 2, 1)), [(3, 3), (4, 2)])

    def test_a_hand_that_is_out_gets_fingers_by_shares_2_alone(self):
        self.assertEqual(self.shares_of((5, 0, 2), (4, 0, 1, 1)), [(2, 2), (3, 1)])
        self.assertEqual(self.shares_of((5, 0, 1), (4, 0, 1, 1)), [])

    def test_a_hand_is_left_without_by_shares_2_alone(self):
        self.assertEqual(self.shares_of((5, 0, 2), (3, 1, 1, 1)), [(2, 2), (4, 0)])
        self.assertEqual(self.shares_of((5, 0, 1), (3, 1, 1, 1)), [(2, 2)])

    def test_no_hand_has_full_or_more(self):
        self.assertEqual(self.shares_of((5, 0, 2), (4, 3, 1, 1)), [])
        self.assertEqual(self.shares_of((5, 0, 2), (3, 2, 1, 1)), [(4, 1)])
        self.assertEqual(self.shares_of((5, 0, 1), (4, 4, 1, 1)), [])

    def test_one_finger_in_all_is_not_shared_otherwise(self):
        self.assertEqual(self.shares_of((5, 0, 2), (1, 0, 1, 1)), [])


class EveryStand(unittest.TestCase):
    def test_turns_of_every_stand_by_all_rules(self):
        for numbers in ALL_RULES:
            for hands in every_stand(numbers[0]):
                with self.subTest(numbers=numbers, hands=hands):
                    self.assertEqual(turns_of(numbers, hands), turns_by_words(hands, *numbers))


class Take(unittest.TestCase):
    def test_answers_how_many_turns_there_are_then(self):
        # Behind the first: (2, 1) on (1, 1), with the share (3, 0); behind the second: (1, 1) on (2, 0).
        self.assertEqual(ask(take(0), TURNS), [[3], [3, 3, 1, 2, 1, 2, 1, 2, 1, 1, 1, 3, 0]])
        self.assertEqual(ask(take(1), TURNS), [[2], [2, 3, 0, 1, 1, 2, 0, 2, 0]])

    def test_the_first_and_the_last_turn_and_one_beyond(self):
        stands = turns_of((7, 1, 2), (5, 1, 2, 3))
        for k in (0, len(stands) - 1):
            with self.subTest(k=k):
                behind = turns_by_words(stands[k], 7, 1, 2)
                given = ask(rules(7, 1, 2), stand(5, 1, 2, 3), take(k), TURNS)
                self.assertEqual(given[2], [len(behind)])
                self.assertEqual(given[3], [len(behind)] + [n for one in behind for n in one])
        for k in (len(stands), len(stands) + 1, MOST):
            with self.subTest(k=k):
                self.assertEqual(ask(rules(7, 1, 2), stand(5, 1, 2, 3), take(k))[2], [-2])

    def test_a_turn_that_ends_the_game(self):
        given = ask(rules(5, 0, 0), stand(4, 0, 1, 0), take(0), TURNS, WORTH, take(0), take(MOST))
        self.assertEqual(given[2:], [[0], [0], [2, 0], [-2], [-2]])

    def test_a_round_that_comes_back_to_itself(self):
        stands = ask(rules(5, 1, 0), stand(1, 0, 2, 0), TURNS, take(0), TURNS, take(0), TURNS, take(0), TURNS,
                     take(0), TURNS)[2::2]
        self.assertEqual(stands, [[1, 3, 0, 1, 0], [1, 4, 0, 3, 0], [1, 2, 0, 4, 0], [1, 1, 0, 2, 0],
                                  [1, 3, 0, 1, 0]])

    def test_all_is_as_it_was_behind_a_refusal(self):
        ahead = [rules(6, 1, 1), stand(5, 2, 4, 3)]
        asked = [TURNS, WORTH, take(2), TURNS]
        wanted = ask(*ahead, *asked)[2:]
        beyond = wanted[0][0]
        self.assertEqual(ask(*ahead, take(beyond), take(MOST), *asked)[2:], [[-2], [-2]] + wanted)

    def test_turns_changes_nothing(self):
        given = ask(TURNS, TURNS, take(0), TURNS, TURNS)
        self.assertEqual(given[0], given[1])
        self.assertEqual(given[3], given[4])


if __name__ == "__main__":
    unittest.main()
