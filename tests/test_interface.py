"""The interface: how answers are told, and that nothing is changed or kept."""

import contextlib
import io
import unittest

from fingertaps.game import answers
from tests.reckoning import GOOD, HARDEST, KINDS, MOST, TURNS, WORTH, kinds_by_words, play, rules, stand, take


class Watched(list):
    """A list that does not let itself be changed."""

    def refuse(self, *args, **kwargs):
        raise AssertionError("what is handed in was changed")

    append = extend = insert = pop = remove = clear = sort = reverse = refuse
    __setitem__ = __delitem__ = __iadd__ = __imul__ = refuse


def one_list(*calls):
    return [number for call in calls for number in call]


# All nine calls, and each refusal.
LONG = [
    one_list(WORTH, TURNS, take(1), stand(3, 1, 2, 4), TURNS, GOOD, rules(7, 1, 2), TURNS, take(9), play(7), TURNS,
             stand(6, 5, 0, 0), stand(7, 5, 1, 0), rules(9, 9, 9), take(MOST), KINDS, TURNS, take(0), HARDEST),
    one_list(HARDEST, rules(6, 0, 1), KINDS, stand(0, 5, 1, 4), play(0), TURNS, play(MOST), take(1), play(50), TURNS),
]


class Form(unittest.TestCase):
    def test_each_answer_has_its_count_ahead(self):
        self.assertEqual(answers([0, 5, 0, 2]), [1, 0])
        self.assertEqual(answers([1, 3, 1, 2, 1]), [1, 6])
        self.assertEqual(answers([2]), [9, 2, 2, 1, 1, 1, 1, 1, 2, 0])
        self.assertEqual(answers([3, 0]), [1, 3])
        self.assertEqual(answers([0, 5, 1, 0, 1, 1, 0, 2, 0, 4]), [1, 0, 1, 1, 2, 0, 0])
        self.assertEqual(answers([0, 5, 0, 0, 1, 2, 1, 4, 1, 5]), [1, 0, 1, 3, 3, 2, 0, 2])
        self.assertEqual(answers([1, 0, 0, 1, 1, 5, 6, 1]), [1, 0, 1, 0, 2, 0, 2])
        self.assertEqual(answers([0, 5, 1, 0, 1, 1, 0, 2, 0, 6, 50]), [1, 0, 1, 1, 2, 50, 0])
        self.assertEqual(answers([7]), [4] + kinds_by_words(5, 0, 2))
        self.assertEqual(answers([0, 6, 0, 2, 8]), [1, 0, 5, 41, 3, 1, 5, 3])

    def test_a_refusal_is_alone(self):
        self.assertEqual(answers([0, 2, 0, 0]), [1, -1])
        self.assertEqual(answers([1, 5, 1, 1, 1]), [1, -1])
        self.assertEqual(answers([1, 1, 1, 0, 0]), [1, -3])
        self.assertEqual(answers([3, 2]), [1, -2])
        self.assertEqual(answers([6, 0]), [1, -1])
        self.assertEqual(answers([6, 51]), [1, -1])

    def test_calls_one_behind_another(self):
        calls = [3, 1, 3, 9, 0, 4, 0, 0, 1, 0, 0, 3, 3, 2, 1, 3, 3, 1, 1, 2]
        self.assertEqual(answers(calls), [1, 2, 1, -2, 1, 0, 1, 0, 1, 0, 1, 1, 5, 1, 1, 0, 3, 3])

    def test_a_list_of_whole_numbers(self):
        for calls in LONG:
            given = answers(calls)
            self.assertIs(type(given), list)
            self.assertEqual({type(number) for number in given}, {int})

    def test_forty_calls(self):
        self.assertEqual(answers([2] * 40), [9, 2, 2, 1, 1, 1, 1, 1, 2, 0] * 40)


class NothingChangedOrKept(unittest.TestCase):
    def test_the_list_handed_in_stays_as_it_was(self):
        for line in LONG:
            calls = Watched(line)
            self.assertEqual(answers(calls), answers(list(line)))
            self.assertEqual(list(calls), line)

    def test_a_second_time_answers_as_the_first(self):
        first = [answers(calls) for calls in LONG]
        wanted = [list(given) for given in first]
        self.assertEqual([answers(calls) for calls in LONG], wanted)
        for given in first:
            given.clear()
        self.assertEqual([answers(calls) for calls in reversed(LONG)], wanted[::-1])

    def test_a_game_is_new_each_time(self):
        answers([0, 7, 1, 0, 1, 6, 5, 4, 3])
        self.assertEqual(answers([2]), [9, 2, 2, 1, 1, 1, 1, 1, 2, 0])
        answers([0, 7, 1, 0, 6, 50, 7, 8])
        self.assertEqual(answers([7]), [4] + kinds_by_words(5, 0, 2))

    def test_nothing_is_printed(self):
        with contextlib.redirect_stdout(io.StringIO()) as out, contextlib.redirect_stderr(io.StringIO()) as err:
            for calls in LONG:
                answers(calls)
        self.assertEqual(out.getvalue() + err.getvalue(), "")


if __name__ == "__main__":
    unittest.main()
