"""All nine calls mixed in one list: each answers by the rules and the stand of its own time."""

import itertools
import random
import unittest

from tests.reckoning import (ALL_RULES, FIRST_RULES, GOOD, HARDEST, KINDS, MOST, TURNS, WORTH, ask, good_by_words,
                             hardest_by_words, kinds_by_words, play, play_by_words, rules, stand, take, told,
                             turns_by_words, worths_by_words)


class Followed:
    """A game that is followed by the document's words; each method gives back what its call answers."""

    def __init__(self):
        self.numbers = FIRST_RULES
        self.now = (1, 1, 1, 1)

    def behind(self):
        return turns_by_words(self.now, *self.numbers)

    def rules(self, full, over, shares):
        if (full, over, shares) not in ALL_RULES:
            return [-1]
        self.numbers, self.now = (full, over, shares), (1, 1, 1, 1)
        return [0]

    def stand(self, *hands):
        if max(hands) >= self.numbers[0]:
            return [-1]
        if hands[2:] == (0, 0):
            return [-3]
        self.now = told(hands[:2]) + told(hands[2:])
        return [len(self.behind())]

    def turns(self):
        return [len(self.behind())] + [number for one in self.behind() for number in one]

    def take(self, k):
        if k >= len(self.behind()):
            return [-2]
        self.now = self.behind()[k]
        return [len(self.behind())]

    def worth(self):
        return worths_by_words(*self.numbers)[self.now]

    def good(self):
        good = good_by_words(self.now, *self.numbers)
        return [len(good), *good]

    def play(self, n):
        if not 1 <= n <= 50:
            return [-1]
        taken, self.now = play_by_words(self.now, n, *self.numbers)
        return [taken, self.worth()[0]]

    def kinds(self):
        return kinds_by_words(*self.numbers)

    def hardest(self):
        return hardest_by_words(*self.numbers)

    def answer(self, call):
        names = ("rules", "stand", "turns", "take", "worth", "good", "play", "kinds", "hardest")
        return getattr(self, names[call[0]])(*call[1:])


def followed(calls):
    game = Followed()
    return [game.answer(call) for call in calls]


class Mixed(unittest.TestCase):
    def test_all_nine_calls_by_hand(self):
        given = ask(rules(4, 0, 0), stand(3, 1, 3, 1), TURNS, GOOD, take(1), WORTH, play(1), TURNS, KINDS, HARDEST)
        self.assertEqual(given, [
            [0], [3], [3, 1, 0, 3, 1, 3, 0, 3, 1, 3, 2, 3, 1], [1, 1], [2], [2, 2], [1, 1], [1, 0, 0, 1, 0],
            [90, 59, 31, 0], [7, 1, 1, 1, 1]])

    def test_all_nine_calls_in_many_orders(self):
        calls = [rules(5, 1, 0), stand(2, 1, 4, 1), TURNS, take(1), WORTH, GOOD, play(3), KINDS, HARDEST]
        source = random.Random(5)
        for number in range(200):
            some = source.sample(calls, len(calls))
            with self.subTest(some=some):
                self.assertEqual(ask(*some), followed(some))

    def test_rules_between_two(self):
        told_of = [WORTH, GOOD, play(2), KINDS, HARDEST]
        for one, other in itertools.product(told_of, repeat=2):
            for first, second in ((3, 0, 0), (5, 1, 2)), ((7, 1, 0), (7, 1, 2)), ((5, 0, 1), (5, 1, 1)):
                calls = [rules(*first), one, rules(*second), other, rules(*first), one, rules(8, 0, 0), other]
                with self.subTest(calls=calls):
                    self.assertEqual(ask(*calls), followed(calls))

    def test_stand_between_two(self):
        told_of = [WORTH, GOOD, play(1), KINDS, HARDEST]
        for one, other in itertools.product(told_of, repeat=2):
            for numbers in (3, 0, 2), (5, 1, 0), (4, 0, 0):
                calls = [rules(*numbers), stand(2, 1, 1, 1), one, stand(1, 0, 2, 0), other, stand(2, 0, 2, 1), one,
                         stand(1, 1, 0, 0), other, take(0), one]
                with self.subTest(calls=calls):
                    self.assertEqual(ask(*calls), followed(calls))

    def test_all_five_with_turns_taken_between(self):
        orders = list(itertools.permutations([WORTH, GOOD, play(3), KINDS, HARDEST]))
        for place, some in enumerate(orders):
            for numbers in ALL_RULES[place % 7::7]:
                calls = [rules(*numbers)]
                for k, call in enumerate(some):
                    calls += [call, TURNS, take(k % 2)]
                with self.subTest(calls=calls):
                    self.assertEqual(ask(*calls), followed(calls))


class Lines(unittest.TestCase):
    def test_lines_of_forty_calls_against_the_reckoning(self):
        source = random.Random(20)
        seen = set()
        for number in range(400):
            calls = self.line(source)
            wanted = followed(calls)
            seen.update((call[0], min(answer[0], 0)) for call, answer in zip(calls, wanted))
            with self.subTest(number=number, calls=calls):
                self.assertEqual(ask(*calls), wanted)
        taken = {(call, 0) for call in range(9)}
        self.assertEqual(seen, taken | {(0, -1), (1, -1), (1, -3), (3, -2), (6, -1)})

    def line(self, source):
        # At most five of the calls that look at all stands, somewhere among the others.
        places = source.sample(range(40), 5)
        full = 5
        calls = []
        for place in range(40):
            choice = source.randrange(10)
            if place in places:
                n = source.choice([0, 1, 2, 3, 5, 10, 50, 51, MOST])
                calls.append(source.choice([WORTH, GOOD, play(n), play(n), KINDS, HARDEST]))
            elif choice == 0:
                asked = (source.randint(2, 8), source.randint(0, 2), source.randint(0, 3))
                if asked in ALL_RULES:
                    full = asked[0]
                calls.append(rules(*asked))
            elif choice == 1:
                calls.append(stand(*[source.randrange(full + source.randrange(2)) for _ in range(4)]))
            elif choice < 5:
                calls.append(TURNS)
            else:
                calls.append(take(source.randrange(4)))
        return calls


if __name__ == "__main__":
    unittest.main()
