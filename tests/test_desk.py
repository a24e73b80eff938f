"""The desk: how calls and answers stand number by number, and that nothing is kept."""

import unittest

from lonestations.desk import answers
from tests.support import HUGE, ask

LONG = [0, 1, 2, 0, 3, 1, 0, 0, 0, 7, 4, 1, 1, 4, 1, 8, 1, 5, 7, 6, 3, 12, 2, 2, 1, 3, 1, 1, 8, 9, 10, 11, 0]


class Form(unittest.TestCase):
    def test_one_call(self):
        self.assertEqual(answers([0]), [1, 0])

    def test_error_is_its_code_alone(self):
        self.assertEqual(answers([7]), [1, -11])
        self.assertEqual(answers([0, 7]), [1, 0, 1, -6])

    def test_count_ahead_of_each_answer(self):
        self.assertEqual(
            answers([0, 1, 2, 0, 3, 1, 0, 0, 0, 7, 8, 9, 10, 6, 3, 11, 0, 12, 1]),
            [1, 0, 1, 0]
            + [7, 0, 2, 1, 4, 3, 2, 3]
            + [9, 0, 2, 1, 2, 1, 2, 1, 0, 1]
            + [7, 0, 0, 1, 2, 3, 2, 3]
            + [5, 0, 1, 1, 2, 3]
            + [3, 0, 8, 81]
            + [3, 0, 1, 3]
            + [5, 0, 0, 1, 0, 1],
        )

    def test_a_class_number_is_answered_as_the_first(self):
        self.assertEqual(answers([0, 4, 1, 1, 4, 1, 8, 1, 4, 1, 1, 4, 1, 8, 1, 5, 0]), [1, 0, 1, 0, 1, 1, 1, 1])

    def test_a_refused_call_takes_its_arguments_along(self):
        given = [1, 0, 0, 0, 0, 0, 0, 0, 2, 0, 3, 0, 0, 4, 0, 0, 0, 0, 0, 0, 5, 0, 6, 0, 7, 8, 9, 10, 11, 0, 12, 0]
        self.assertEqual(answers(given), [1, -11] * 12)
        self.assertEqual(
            answers([0] + given),
            [1, 0, 1, -22, 1, -6, 1, -6, 1, -22, 1, -2] + [1, -6] * 7,
        )

    def test_sixty_calls(self):
        calls = [("create",), ("set_station", 2, 0, 3, 1, 0, 0, 0)] + [("probability", 1000)] * 58
        replies = ask(*calls)
        self.assertEqual(len(replies), 60)
        self.assertEqual(replies[2:], [[0, 2 ** 1000, 3 ** 1001]] * 58)

    def test_plain_whole_numbers_and_a_plain_list(self):
        answered = answers(list(LONG))
        self.assertIs(type(answered), list)
        self.assertEqual({type(number) for number in answered}, {int})

    def test_arguments_that_look_like_calls(self):
        self.assertEqual(answers([0, 6, 0, 6, HUGE, 0, 2, 0]), [1, 0, 1, -6, 1, -6, 1, 0, 1, -6])


class Watched(list):
    """A list that can't be changed, not for a while either."""

    def refuse(self, *given, **named):
        raise AssertionError("what is handed in is changed")

    append = extend = insert = pop = remove = clear = sort = reverse = refuse
    __setitem__ = __delitem__ = __iadd__ = __imul__ = refuse


class NothingKept(unittest.TestCase):
    def test_what_is_handed_in_stays(self):
        given = list(LONG)
        answers(given)
        self.assertEqual(given, LONG)

    def test_what_is_handed_in_is_never_changed(self):
        self.assertEqual(answers(Watched(LONG)), answers(list(LONG)))

    def test_each_time_is_the_first(self):
        first = answers(list(LONG))
        self.assertEqual(answers([7]), [1, -11])
        self.assertEqual(answers([4, 1, 1, 4, 1, 8, 1]), [1, -11])
        self.assertEqual(answers([0, 7]), [1, 0, 1, -6])
        self.assertEqual(answers([0, 4, 1, 1, 4, 1, 8, 1]), [1, 0, 1, 0])
        self.assertEqual(answers(list(LONG)), first)

    def test_a_changed_answer_changes_no_later_one(self):
        first = answers(list(LONG))
        kept = list(first)
        first.clear()
        self.assertEqual(answers(list(LONG)), kept)


if __name__ == "__main__":
    unittest.main()
