"""The interface: how answers are told, and that nothing is changed or kept."""

import contextlib
import io
import unittest

from fingertaps.game import answers
from tests.reckoning import MOST


class Watched(list):
    """A list that does not let itself be changed."""

    def refuse(self, *args, **kwargs):
        raise AssertionError("what is handed in was changed")

    append = extend = insert = pop = remove = clear = sort = reverse = refuse
    __setitem__ = __delitem__ = __iadd__ = __imul__ = refuse


LONG = [4, 2, 3, 1, 1, 3, 1, 2, 4, 2, 4, 0, 7, 1, 2, 2, 3, 9, 1, 6, 5, 0, 0, 0, 9, 9, 9, 3, MOST, 4, 2, 3, 0, 4]


class Form(unittest.TestCase):
    def test_each_answer_has_its_count_ahead(self):
        self.assertEqual(answers([0, 5, 0, 2]), [1, 0])
        self.assertEqual(answers([1, 3, 1, 2, 1]), [1, 6])
        self.assertEqual(answers([2]), [9, 2, 2, 1, 1, 1, 1, 1, 2, 0])
        self.assertEqual(answers([3, 0]), [1, 3])
        self.assertEqual(answers([0, 5, 1, 0, 1, 1, 0, 2, 0, 4]), [1, 0, 1, 1, 2, 0, 0])

    def test_a_refusal_is_alone(self):
        self.assertEqual(answers([0, 2, 0, 0]), [1, -1])
        self.assertEqual(answers([1, 5, 1, 1, 1]), [1, -1])
        self.assertEqual(answers([1, 1, 1, 0, 0]), [1, -3])
        self.assertEqual(answers([3, 2]), [1, -2])

    def test_calls_one_behind_another(self):
        calls = [3, 1, 3, 9, 0, 4, 0, 0, 1, 0, 0, 3, 3, 2, 1, 3, 3, 1, 1, 2]
        self.assertEqual(answers(calls), [1, 2, 1, -2, 1, 0, 1, 0, 1, 0, 1, 1, 5, 1, 1, 0, 3, 3])

    def test_a_list_of_whole_numbers(self):
        given = answers(LONG)
        self.assertIs(type(given), list)
        self.assertEqual({type(number) for number in given}, {int})

    def test_forty_calls(self):
        self.assertEqual(answers([2] * 40), [9, 2, 2, 1, 1, 1, 1, 1, 2, 0] * 40)


class NothingChangedOrKept(unittest.TestCase):
    def test_the_list_handed_in_stays_as_it_was(self):
        calls = Watched(LONG)
        answers(calls)
        self.assertEqual(list(calls), LONG)

    def test_a_second_time_answers_as_the_first(self):
        first = answers(LONG)
        wanted = list(first)
        self.assertEqual(answers(LONG), wanted)
        first.clear()
        self.assertEqual(answers(LONG), wanted)

    def test_a_game_is_new_each_time(self):
        answers([0, 7, 1, 0, 1, 6, 5, 4, 3])
        self.assertEqual(answers([2]), [9, 2, 2, 1, 1, 1, 1, 1, 2, 0])

    def test_nothing_is_printed(self):
        with contextlib.redirect_stdout(io.StringIO()) as out, contextlib.redirect_stderr(io.StringIO()) as err:
            answers(LONG)
        self.assertEqual(out.getvalue() + err.getvalue(), "")


if __name__ == "__main__":
    unittest.main()
