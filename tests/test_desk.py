"""The desk: how calls and answers stand number by number, and that nothing is kept."""

import unittest

from lonestations.desk import answers
from tests.support import HUGE, ask

LONG = [
    0, 1, 2, 0, 3, 1, 0, 0, 0, 7, 4, 1, 1, 4, 1, 8, 1, 5, 7, 6, 3, 12, 2, 2, 1, 3, 1, 1, 8, 9, 10, 11, 0,
    4, 1, 1, 2, 1, 2, 4, 13, 2, 3, 2, 14, 2, 3, 2, 15, 0, 3, 2, 1, 10, 16, 17, 18, 2, 0, 1, 19, 2, 1, 0,
    20, 2, 1, 0, 21, 2, 0, 1, 18, 0, 22, 23, 1, 1, 1, 1, 24, 5, 0,
]


class Form(unittest.TestCase):
    def test_one_call(self):
        self.assertEqual(answers([0]), [1, 0])

    def test_error_is_its_code_alone(self):
        self.assertEqual(answers([7]), [1, -11])
        self.assertEqual(answers([0, 7]), [1, 0, 1, -6])

    def test_count_ahead_of_each_answer(self):
        self.assertEqual(
            answers([0, 1, 2, 0, 3, 1, 0, 0, 0, 7, 8, 9, 10, 6, 3, 11, 0, 12, 1]),
            [1, 0, 1, 0]
            + [7, 0, 2, 1, 4, 3, 2, 3]
            + [9, 0, 2, 1, 2, 1, 2, 1, 0, 1]
            + [7, 0, 0, 1, 2, 3, 2, 3]
            + [5, 0, 1, 1, 2, 3]
            + [3, 0, 8, 81]
            + [3, 0, 1, 3]
            + [5, 0, 0, 1, 0, 1],
        )

    def test_a_class_number_is_answered_as_the_first(self):
        self.assertEqual(answers([0, 4, 1, 1, 4, 1, 8, 1, 4, 1, 1, 4, 1, 8, 1, 5, 0]), [1, 0, 1, 0, 1, 1, 1, 1])

    def test_count_ahead_of_each_answer_of_the_classes(self):
        given = [0, 16, 18, 0, 22, 24, 4, 1, 1, 4, 1, 8, 1, 4, 1, 1, 2, 1, 2, 4, 13, 2, 3, 2, 14, 2, 3, 2]
        given += [15, 0, 3, 2, 1, 10, 16, 17, 18, 2, 0, 1, 19, 2, 0, 1, 20, 2, 0, 1, 21, 2, 0, 1]
        given += [22, 23, 1, 1, 1, 1, 24]
        self.assertEqual(
            answers(given),
            [1, 0] + [3, 1, 0, 1] + [1, 0] + [1, 0] + [3, 0, 0, 1] + [1, 0] + [1, 1]
            + [3, 0, 9, 29] + [3, 0, 9, 14] + [1, 4]
            + [7, 3, 1, 4, 1, 2, 3, 4]
            + [3, 0, 5, 4]
            + [5, 2, 5, 12, 5, 3]
            + [5, 2, 1, 3, 7, 3]
            + [5, 0, 15, 16, 15, 16]
            + [3, 0, 85, 12]
            + [3, 2, 1, 0]
            + [3, 0, 7, 4]
            + [3, 0, 2, 1],
        )

    def test_a_refused_call_takes_its_order_along(self):
        given = [18, 0, 19, 1, 0, 20, 8, 0, 0, 0, 0, 0, 0, 0, 0, 21, 3, 0, HUGE, 18, 13, 0, 0, 0, 14, 0, 0, 0]
        given += [15, 0, 0, 0, 0, 0, 16, 17, 22, 23, 0, 0, 0, 0, 24]
        self.assertEqual(answers(given), [1, -11] * 12)
        self.assertEqual(
            answers([0] + given),
            [1, 0, 1, 0, 1, -22, 1, -22, 1, -22, 1, -22, 1, -22, 1, -22, 3, 1, 0, 1, 1, -6, 1, 0, 1, -22, 3, 0, 0, 1],
        )

    def test_a_refused_call_takes_its_arguments_along(self):
        given = [1, 0, 0, 0, 0, 0, 0, 0, 2, 0, 3, 0, 0, 4, 0, 0, 0, 0, 0, 0, 5, 0, 6, 0, 7, 8, 9, 10, 11, 0, 12, 0]
        self.assertEqual(answers(given), [1, -11] * 12)
        self.assertEqual(
            answers([0] + given),
            [1, 0, 1, -22, 1, -6, 1, -6, 1, -22, 1, -2] + [1, -6] * 7,
        )

    def test_sixty_calls(self):
        calls = [("create",), ("set_station", 2, 0, 3, 1, 0, 0, 0)] + [("probability", 1000)] * 58
        replies = ask(*calls)
        self.assertEqual(len(replies), 60)
        self.assertEqual(replies[2:], [[0, 2 ** 1000, 3 ** 1001]] * 58)

    def test_six_hundred_numbers(self):
        adds = [("add_class", 1, 1, 8, 1, 8, 1)] * 5
        calls = [("create",)] + adds + [("set_station", 2, 0, 3, 1, 0, 0, 0)] + [("cost", list(range(8)))] * 53
        replies = ask(*calls)
        self.assertEqual(replies[7:], [[-22]] * 53)
        replies = ask(*calls[:7], *[("cost", [4, 3, 2, 1, 0])] * 53)
        self.assertEqual(len(replies), 60)
        self.assertEqual({reply[0] for reply in replies[7:]}, {0})

    def test_plain_whole_numbers_and_a_plain_list(self):
        answered = answers(list(LONG))
        self.assertIs(type(answered), list)
        self.assertEqual({type(number) for number in answered}, {int})

    def test_arguments_that_look_like_calls(self):
        self.assertEqual(answers([0, 6, 0, 6, HUGE, 0, 2, 0]), [1, 0, 1, -6, 1, -6, 1, 0, 1, -6])


class Watched(list):
    """A list that can't be changed, not for a while either."""

    def refuse(self, *given, **named):
        raise AssertionError("what is handed in is changed")

    append = extend = insert = pop = remove = clear = sort = reverse = refuse
    __setitem__ = __delitem__ = __iadd__ = __imul__ = refuse


class NothingKept(unittest.TestCase):
    def test_what_is_handed_in_stays(self):
        given = list(LONG)
        answers(given)
        self.assertEqual(given, LONG)

    def test_what_is_handed_in_is_never_changed(self):
        self.assertEqual(answers(Watched(LONG)), answers(list(LONG)))

    def test_each_time_is_the_first(self):
        first = answers(list(LONG))
        self.assertEqual(answers([7]), [1, -11])
        self.assertEqual(answers([4, 1, 1, 4, 1, 8, 1]), [1, -11])
        self.assertEqual(answers([16, 24, 13, 2, 3, 2]), [1, -11] * 3)
        self.assertEqual(answers([0, 16, 24]), [1, 0, 3, 1, 0, 1, 3, 0, 0, 1])
        self.assertEqual(answers([0, 7]), [1, 0, 1, -6])
        self.assertEqual(answers([0, 4, 1, 1, 4, 1, 8, 1]), [1, 0, 1, 0])
        self.assertEqual(answers(list(LONG)), first)

    def test_a_changed_answer_changes_no_later_one(self):
        first = answers(list(LONG))
        kept = list(first)
        first.clear()
        self.assertEqual(answers(list(LONG)), kept)


if __name__ == "__main__":
    unittest.main()
