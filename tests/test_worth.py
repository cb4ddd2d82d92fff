"""worth: who wins from a stand, and in how many turns."""

import unittest

from tests.reckoning import ALL_RULES, WORTH, ask, every_stand, rules, stand, take, worths_by_words


def worth_of(numbers, hands):
    return ask(rules(*numbers), stand(*hands), WORTH)[2]


class ByHand(unittest.TestCase):
    def test_over_and_done_is_lost_with_length_0(self):
        for numbers in ALL_RULES:
            with self.subTest(numbers=numbers):
                self.assertEqual(worth_of(numbers, (0, 0, 1, 1)), [2, 0])

    def test_won_by_the_next_tap(self):
        self.assertEqual(worth_of((5, 0, 0), (4, 0, 1, 0)), [1, 1])
        self.assertEqual(worth_of((5, 1, 0), (4, 0, 1, 0)), [1, 1])
        self.assertEqual(worth_of((5, 0, 0), (4, 0, 3, 0)), [1, 1])

    def test_lost_as_the_only_turn_leads_to_a_won_stand(self):
        self.assertEqual(worth_of((3, 0, 0), (1, 0, 1, 0)), [2, 2])
        # The tap makes 4 of 2, which begins anew with 1, and that one puts the 2 out.
        self.assertEqual(worth_of((3, 1, 0), (2, 0, 2, 0)), [2, 2])

    def test_won_in_three_turns(self):
        # 1 on 1 makes 2, that on 1 makes 3, and that puts the 2 out.
        self.assertEqual(worth_of((4, 0, 0), (1, 0, 1, 0)), [1, 3])

    def test_for_ever_as_a_round_comes_back_to_itself(self):
        for hands in ((1, 0, 2, 0), (3, 0, 1, 0), (4, 0, 3, 0), (2, 0, 4, 0)):
            with self.subTest(hands=hands):
                self.assertEqual(worth_of((5, 1, 0), hands), [0, 0])

    def test_at_the_beginning_and_behind_turns(self):
        known = worths_by_words(5, 0, 2)
        self.assertEqual(ask(WORTH, take(0), WORTH, take(0), WORTH)[::2],
                         [known[(1, 1, 1, 1)], known[(2, 1, 1, 1)], known[(3, 1, 2, 1)]])

    def test_worth_changes_nothing(self):
        given = ask(stand(3, 1, 2, 1), WORTH, WORTH, take(1), WORTH)
        self.assertEqual(given[1], given[2])
        self.assertEqual(given[4], worths_by_words(5, 0, 2)[(4, 2, 3, 1)])

    def test_it_goes_by_the_rules_now(self):
        given = ask(rules(5, 1, 0), stand(1, 0, 2, 0), WORTH, rules(3, 0, 0), stand(1, 0, 1, 0), WORTH,
                    rules(8, 0, 0), WORTH)
        self.assertEqual([given[2], given[5], given[7]], [[0, 0], [2, 2], [2, 2]])


class EveryStand(unittest.TestCase):
    def test_every_stand_by_all_rules(self):
        seen = set()
        for numbers in ALL_RULES:
            known = worths_by_words(*numbers)
            seen.update(worth for worth, length in known.values())
            stands = every_stand(numbers[0])
            # A line has at most 5 calls of worth.
            for k in range(0, len(stands), 5):
                some = stands[k:k + 5]
                calls = [call for hands in some for call in (stand(*hands), WORTH)]
                with self.subTest(numbers=numbers, some=some):
                    self.assertEqual(ask(rules(*numbers), *calls)[2::2], [known[hands] for hands in some])
        self.assertEqual(seen, {0, 1, 2})


if __name__ == "__main__":
    unittest.main()
