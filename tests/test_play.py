"""Promise 4: play."""

import unittest

from tests.reckoning import (ALL_RULES, GOOD, MOST, TURNS, WORTH, ask, every_stand, good_by_words, play,
                             play_by_words, rules, stand, take, turns_by_words, worths_by_words)

ROUND = [rules(5, 1, 0), stand(1, 0, 2, 0)]
SHORT = [rules(4, 0, 0), stand(1, 0, 1, 0)]


def turns_answer(now, numbers):
    stands = turns_by_words(now, *numbers)
    return [len(stands)] + [number for one in stands for number in one]


def good_answer(now, numbers):
    good = good_by_words(now, *numbers)
    return [len(good), *good]


class Taken(unittest.TestCase):
    def test_all_n_turns_are_taken(self):
        # 1 on 1 makes 2, that on 1 makes 3, and that puts the 2 out.
        self.assertEqual(ask(*SHORT, play(1), TURNS, WORTH)[2:], [[1, 2], [1, 3, 0, 2, 0], [2, 2]])
        self.assertEqual(ask(*SHORT, play(2), TURNS, WORTH)[2:], [[2, 1], [1, 0, 0, 3, 0], [1, 1]])
        self.assertEqual(ask(*SHORT, play(3), TURNS, WORTH)[2:], [[3, 2], [0], [2, 0]])

    def test_it_ends_when_it_is_over_and_done(self):
        for n in (4, 5, 49, 50):
            with self.subTest(n=n):
                self.assertEqual(ask(*SHORT, play(n), TURNS, GOOD, take(0))[2:], [[3, 2], [0], [0], [-2]])

    def test_from_over_and_done_no_turn_is_taken(self):
        for numbers in ALL_RULES:
            for n in (1, 50):
                with self.subTest(numbers=numbers, n=n):
                    given = ask(rules(*numbers), stand(0, 0, 2, 1), play(n), play(n), TURNS, GOOD)
                    self.assertEqual(given[2:], [[0, 2], [0, 2], [0], [0]])

    def test_for_ever_all_n_turns_are_taken(self):
        # A round of four stands: (1 on 2), (3 on 1), (4 on 3), (2 on 4), and again.
        self.assertEqual(ask(*ROUND, play(1), TURNS)[2:], [[1, 0], [1, 4, 0, 3, 0]])
        self.assertEqual(ask(*ROUND, play(4), TURNS)[2:], [[4, 0], [1, 3, 0, 1, 0]])
        self.assertEqual(ask(*ROUND, play(49), TURNS)[2:], [[49, 0], [1, 4, 0, 3, 0]])
        self.assertEqual(ask(*ROUND, play(50), TURNS)[2:], [[50, 0], [1, 2, 0, 4, 0]])

    def test_it_goes_on_from_where_it_ended(self):
        self.assertEqual(ask(*SHORT, play(1), play(1), play(1), play(1), GOOD)[2:],
                         [[1, 2], [1, 1], [1, 2], [0, 2], [0]])
        self.assertEqual(ask(*ROUND, play(50), play(50), TURNS)[2:], [[50, 0], [50, 0], [1, 3, 0, 1, 0]])

    def test_of_several_good_turns_the_first(self):
        # The turns 0 and 2 are good; the first leads to (1, 0) on (2, 1).
        self.assertEqual(ask(rules(5, 0, 0), stand(2, 1, 4, 1), play(1), TURNS)[2:],
                         [[1, 2], [2, 3, 1, 1, 0, 2, 2, 1, 0]])
        # The turns 1 and 2 are good; the first leads to (3, 0) on (3, 2).
        self.assertEqual(ask(rules(5, 1, 0), stand(3, 2, 3, 2), play(1), TURNS)[2:],
                         [[1, 2], [2, 2, 1, 3, 0, 3, 0, 3, 0]])

    def test_a_won_stand_is_played_in_its_length(self):
        # Of all rules the longest win: 41 turns.
        given = ask(rules(6, 0, 2), stand(3, 1, 5, 3), play(40), WORTH, play(50), WORTH)
        self.assertEqual(given[2:], [[40, 1], [1, 1], [1, 2], [2, 0]])
        self.assertEqual(ask(rules(6, 0, 2), stand(3, 1, 5, 3), play(50))[2:], [[41, 2]])

    def test_turns_take_and_good_speak_of_the_stand_then(self):
        for numbers in ALL_RULES:
            for k, hands in enumerate(every_stand(numbers[0])[::7]):
                n = k % 5 + 1
                then = play_by_words(hands, n, *numbers)[1]
                stands = turns_by_words(then, *numbers)
                last = max(len(stands) - 1, 0)
                behind = stands[last] if stands else then
                given = ask(rules(*numbers), stand(*hands), play(n), TURNS, GOOD, take(last), TURNS, GOOD)
                with self.subTest(numbers=numbers, hands=hands, n=n):
                    self.assertEqual(given[3:5], [turns_answer(then, numbers), good_answer(then, numbers)])
                    self.assertEqual(given[5], [len(turns_by_words(behind, *numbers))] if stands else [-2])
                    self.assertEqual(given[6:], [turns_answer(behind, numbers), good_answer(behind, numbers)])


class Refused(unittest.TestCase):
    def test_n_is_not_1_to_50(self):
        for n in (0, 51, 52, 100, MOST - 1, MOST):
            with self.subTest(n=n):
                self.assertEqual(ask(play(n)), [[-1]])
                self.assertEqual(ask(*ROUND, play(n))[2:], [[-1]])
                self.assertEqual(ask(stand(0, 0, 1, 1), play(n))[1:], [[-1]])

    def test_1_and_50_are_not_refused(self):
        self.assertEqual(ask(*ROUND, play(1))[2:], [[1, 0]])
        self.assertEqual(ask(*ROUND, play(50))[2:], [[50, 0]])

    def test_all_is_as_it_was(self):
        for ahead in ([], ROUND, SHORT, [rules(6, 1, 1), stand(5, 2, 4, 3)]):
            for n in (0, 51, MOST):
                with self.subTest(ahead=ahead, n=n):
                    asked = [TURNS, WORTH, GOOD, stand(2, 0, 1, 0), TURNS, take(0), TURNS]
                    wanted = ask(*ahead, *asked)[len(ahead):]
                    self.assertEqual(ask(*ahead, play(n), *asked)[len(ahead):], [[-1]] + wanted)
                    asked = [take(0), TURNS, play(2), TURNS]
                    wanted = ask(*ahead, *asked)[len(ahead):]
                    self.assertEqual(ask(*ahead, play(n), *asked)[len(ahead):], [[-1]] + wanted)

    def test_behind_a_refusal_play_is_as_it_was(self):
        self.assertEqual(ask(*SHORT, play(2), play(0), play(51), play(MOST), play(50))[2:],
                         [[2, 1], [-1], [-1], [-1], [1, 2]])


class EveryStand(unittest.TestCase):
    def test_every_stand_by_all_rules(self):
        often = (1, 50, 2, 3, 49, 8, 5)
        for numbers in ALL_RULES:
            known = worths_by_words(*numbers)
            stands = every_stand(numbers[0])
            # A line has at most 5 calls of play.
            for k in range(0, len(stands), 5):
                calls, wanted = [], []
                for place, hands in enumerate(stands[k:k + 5]):
                    n = often[(k + place) % len(often)]
                    taken, then = play_by_words(hands, n, *numbers)
                    calls += [stand(*hands), play(n), TURNS]
                    wanted += [[len(turns_by_words(hands, *numbers))], [taken, known[then][0]],
                               turns_answer(then, numbers)]
                with self.subTest(numbers=numbers, calls=calls):
                    self.assertEqual(ask(rules(*numbers), *calls)[1:], wanted)

    def test_the_beginning_by_all_rules_and_every_n(self):
        for numbers in ALL_RULES:
            known = worths_by_words(*numbers)
            for n in range(1, 51):
                taken, then = play_by_words((1, 1, 1, 1), n, *numbers)
                with self.subTest(numbers=numbers, n=n):
                    self.assertEqual(ask(rules(*numbers), play(n), TURNS),
                                     [[0], [taken, known[then][0]], turns_answer(then, numbers)])


if __name__ == "__main__":
    unittest.main()
