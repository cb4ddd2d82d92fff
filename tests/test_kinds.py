"""kinds and hardest: what is told of all stands together."""

import unittest

from tests.reckoning import (ALL_RULES, GOOD, HARDEST, KINDS, TURNS, WORTH, ask, hardest_by_words, kinds_by_words,
                             play, rules, stand, take, turns_by_words)


class Kinds(unittest.TestCase):
    def test_by_all_rules(self):
        for numbers in ALL_RULES:
            with self.subTest(numbers=numbers):
                self.assertEqual(ask(rules(*numbers), KINDS), [[0], kinds_by_words(*numbers)])

    def test_at_the_beginning(self):
        self.assertEqual(ask(KINDS), [kinds_by_words(5, 0, 2)])

    def test_how_many_in_all(self):
        # A child has full * (full + 1) / 2 twos of hands, the other one all of them but the one that's out.
        for full, together in ((3, 6 * 5), (4, 10 * 9), (5, 15 * 14), (6, 21 * 20), (7, 28 * 27)):
            for over in (0, 1):
                for shares in (0, 1, 2):
                    with self.subTest(full=full, over=over, shares=shares):
                        given = ask(rules(full, over, shares), KINDS)[1]
                        self.assertEqual(len(given), 4)
                        self.assertEqual(given[0], together)
                        self.assertEqual(sum(given[1:]), together)

    def test_none_goes_on_for_ever_where_hands_only_grow_or_go_out(self):
        for full in range(3, 8):
            with self.subTest(full=full):
                self.assertEqual(ask(rules(full, 0, 0), KINDS)[1][3], 0)

    def test_the_stand_now_does_not_matter(self):
        given = ask(rules(5, 1, 0), KINDS, stand(0, 0, 1, 0), KINDS, stand(1, 0, 2, 0), KINDS, play(3), KINDS)
        self.assertEqual(given[1::2], [kinds_by_words(5, 1, 0)] * 4)


class Hardest(unittest.TestCase):
    def test_by_all_rules(self):
        for numbers in ALL_RULES:
            with self.subTest(numbers=numbers):
                self.assertEqual(ask(rules(*numbers), HARDEST), [[0], hardest_by_words(*numbers)])

    def test_at_the_beginning(self):
        self.assertEqual(ask(HARDEST), [hardest_by_words(5, 0, 2)])

    def test_it_is_won_in_so_many_turns(self):
        for numbers in ALL_RULES:
            with self.subTest(numbers=numbers):
                length, *hands = ask(rules(*numbers), HARDEST)[1]
                given = ask(rules(*numbers), stand(*hands), WORTH, play(50))
                self.assertEqual(given[2:], [[1, length], [length, 2]])

    def test_the_first_of_several(self):
        # They differ in the fourth number, in the third, in the second, in the first.
        for numbers, first, others in (
                ((6, 0, 2), [41, 3, 1, 5, 3], [(3, 1, 5, 4), (3, 1, 5, 5), (4, 0, 1, 1), (4, 1, 1, 1)]),
                ((3, 1, 0), [5, 2, 1, 1, 1], [(2, 1, 2, 2)]),
                ((7, 1, 0), [9, 3, 1, 4, 2], [(3, 1, 6, 2), (3, 2, 6, 4), (5, 1, 3, 2)]),
                ((6, 1, 0), [25, 2, 1, 2, 1], [(5, 4, 5, 4)])):
            with self.subTest(numbers=numbers):
                self.assertEqual(ask(rules(*numbers), HARDEST)[1], first)
                for hands in others:
                    self.assertEqual(ask(rules(*numbers), stand(*hands), WORTH)[2], [1, first[0]])

    def test_the_longest_win_is_not_the_longest_of_all(self):
        # The beginning is lost, and only in more turns than any stand is won.
        self.assertEqual(ask(rules(5, 0, 0), WORTH, HARDEST), [[0], [2, 8], [7, 1, 1, 2, 1]])

    def test_the_stand_now_does_not_matter(self):
        given = ask(rules(5, 1, 0), HARDEST, stand(0, 0, 1, 0), HARDEST, stand(1, 0, 2, 0), HARDEST)
        self.assertEqual(given[1::2], [hardest_by_words(5, 1, 0)] * 3)


class NothingChanged(unittest.TestCase):
    def test_kinds_and_hardest_change_nothing(self):
        ahead = [rules(6, 1, 1), stand(5, 2, 4, 3)]
        asked = [TURNS, GOOD, take(1), TURNS, WORTH]
        wanted = ask(*ahead, *asked)[2:]
        self.assertEqual(ask(*ahead, KINDS, HARDEST, *asked)[4:], wanted)
        self.assertEqual(wanted[0][0], len(turns_by_words((5, 2, 4, 3), 6, 1, 1)))


if __name__ == "__main__":
    unittest.main()
