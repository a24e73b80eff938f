"""add_class and remove_class."""

import unittest

from tests.support import HUGE, ClassModel, ask, ask_classes, look_classes

# Mean 1/2, second moment 1/2.
PLAIN = (1, 1, 2, 1, 2, 1)
ADD = ("add_class",) + PLAIN


class AddClass(unittest.TestCase):
    def check(self, reply, *given):
        self.assertEqual(ask(("create",), ("add_class",) + given)[1], [reply], given)

    def check_place(self, place, inside, outside):
        for value in inside:
            self.check(0, *PLAIN[:place], value, *PLAIN[place + 1:])
        for value in outside:
            self.check(-22, *PLAIN[:place], value, *PLAIN[place + 1:])

    def test_arrival(self):
        self.check_place(0, (1, 2, 99999, 100000), (0, 100001, HUGE))

    def test_cost(self):
        self.check_place(5, (0, 1, 99999, 100000), (100001, HUGE))

    def test_first_num(self):
        self.check(-22, 1, 0, 1, 1, 1, 1)
        self.check(0, 1, 1, 1, 1, 1, 1)
        self.check(0, 1, 1000000, 1000000, 1, 1, 1)
        self.check(-22, 1, 1000001, 1000000, 2, 1, 1)
        self.check(-22, 1, HUGE, 1000000, 1000000, 1, 1)

    def test_first_den(self):
        self.check(-22, 1, 1, 0, 1000000, 1, 1)
        self.check(0, 1, 1, 1, 1000000, 1, 1)
        self.check(0, 1, 1, 1000000, 1, 1, 1)
        self.check(-22, 1, 1, 1000001, 1, 1, 1)
        self.check(-22, 1, 1, HUGE, 1, 1, 1)

    def test_second_num(self):
        # A mean is above 0, so a second moment of 0 is never enough.
        self.check(-22, 1, 1, 1000000, 0, 1, 1)
        self.check(0, 1, 1, 1000000, 1, 1, 1)
        self.check(0, 1, 1, 1, 1000000, 1, 1)
        self.check(-22, 1, 1, 1, 1000001, 1, 1)
        self.check(-22, 1, 1, 1, HUGE, 1, 1)

    def test_second_den(self):
        self.check(-22, 1, 1, 2, 1, 0, 1)
        self.check(-22, 1, 1, 2, 0, 0, 1)
        self.check(0, 1, 1, 2, 1, 1, 1)
        self.check(0, 1, 1, 2, 1000000, 1000000, 1)
        self.check(-22, 1, 1, 2, 1000000, 1000001, 1)
        self.check(-22, 1, 1, 1000000, 1, HUGE, 1)

    def test_second_moment_is_at_least_the_square_of_the_mean(self):
        self.check(0, 1, 1, 2, 1, 4, 1)
        self.check(-22, 1, 1, 2, 1, 5, 1)
        self.check(0, 1, 2, 3, 4, 9, 1)
        self.check(-22, 1, 2, 3, 3, 7, 1)
        self.check(0, 1, 3, 1, 9, 1, 1)
        self.check(-22, 1, 3, 1, 8, 1, 1)
        self.check(0, 1, 1000000, 1000, 1000000, 1, 1)
        self.check(-22, 1, 1000000, 1000, 999999, 1, 1)
        self.check(0, 1, 1, 1000, 1, 1000000, 1)
        self.check(-22, 1, 1, 999, 1, 1000000, 1)

    def test_fractions_need_not_be_in_lowest_terms(self):
        self.check(0, 1, 500000, 1000000, 250000, 1000000, 1)
        self.check(-22, 1, 500000, 1000000, 249999, 1000000, 1)

    def test_classes_need_not_be_stable(self):
        self.check(0, 100000, 1000, 1, 1000000, 1, 100000)

    def test_five_classes_and_a_sixth(self):
        replies = ask(("create",), *[ADD] * 7)
        self.assertEqual(replies, [[0], [0], [1], [2], [3], [4], [-28], [-28]])

    def test_a_sixth_out_of_range(self):
        replies = ask(("create",), *[ADD] * 5, ("add_class", 0) + PLAIN[1:], ("add_class",) + PLAIN[:5] + (HUGE,))
        self.assertEqual(replies[6:], [[-22], [-22]])

    def test_a_refused_class_is_not_added(self):
        replies = ask(("create",), ADD, ("add_class", 0) + PLAIN[1:], ("add_class", 1, 1, 2, 1, 5, 1), ADD)
        self.assertEqual(replies, [[0], [0], [-22], [-22], [1]])

    def test_a_refused_sixth_is_not_added(self):
        replies = ask(("create",), *[ADD] * 6, ("remove_class", 0), ADD, ADD)
        self.assertEqual(replies[6:], [[-28], [4], [4], [-28]])

    def test_it_needs_no_station(self):
        replies = ask(("create",), ADD, ("means",), ("remove_class", 0))
        self.assertEqual(replies, [[0], [0], [-6], [0]])


class RemoveClass(unittest.TestCase):
    def test_it_answers_how_many_remain(self):
        replies = ask(("create",), ADD, ADD, ADD, ("remove_class", 1), ("remove_class", 1), ("remove_class", 0))
        self.assertEqual(replies[4:], [[2], [1], [0]])

    def test_a_new_class_has_the_next_number(self):
        replies = ask(("create",), ADD, ADD, ADD, ("remove_class", 0), ADD, ("remove_class", 2), ADD)
        self.assertEqual(replies[4:], [[2], [2], [2], [2]])

    def test_no_such_class(self):
        for number in (0, 1, 5, HUGE):
            self.assertEqual(ask(("create",), ("remove_class", number))[1], [-2])
        for number in (2, 3, 5, HUGE):
            self.assertEqual(ask(("create",), ADD, ADD, ("remove_class", number))[3], [-2])
        for number in (5, 6, HUGE):
            self.assertEqual(ask(("create",), *[ADD] * 5, ("remove_class", number))[6], [-2])

    def test_each_number_is_taken(self):
        for number in range(5):
            self.assertEqual(ask(("create",), *[ADD] * 5, ("remove_class", number))[6], [4])

    def test_the_last_number_is_gone(self):
        replies = ask(("create",), ADD, ADD, ("remove_class", 0), ("remove_class", 1), ("remove_class", 0))
        self.assertEqual(replies[3:], [[1], [-2], [0]])

    def test_a_refusal_removes_nothing(self):
        replies = ask(("create",), ADD, ADD, ("remove_class", 2), ("remove_class", HUGE), ("remove_class", 1))
        self.assertEqual(replies[3:], [[-2], [-2], [1]])


class WhatIsHeld(unittest.TestCase):
    # No two are alike in any figure but the mean's numerator, and together they are stable.
    ROWS = [
        (1, 1, 8, 1, 8, 7), (2, 1, 16, 1, 3, 1), (3, 1, 99, 1, 7, 9), (4, 1, 33, 5, 6, 0), (5, 1, 77, 1, 11, 2),
    ]

    def check_held(self, rows, replies):
        """Check that the replies to look_classes(..) are those of these classes alone."""
        model = ClassModel(rows)
        order = list(range(len(rows)))
        turned = order[::-1]
        self.assertEqual(replies[:2], [[0, len(rows), 1], model.loads()], rows)
        self.assertEqual(replies[3], [len(rows)] + model.best_order(), rows)
        for start, some in ((5, order), (9, turned)):
            wanted = [model.waits(some), model.times(some), model.conservation(some), model.cost(some)]
            self.assertEqual(replies[start:start + 4], wanted, rows)

    def check_removed(self, numbers, places):
        """Check that behind these removals the classes of these places of ROWS are left."""
        calls = [("remove_class", number) for number in numbers]
        replies = ask_classes(self.ROWS, *calls, *look_classes(len(places)))
        self.check_held([self.ROWS[place] for place in places], replies[len(calls):])

    def test_classes_are_held_as_they_were_given(self):
        for count in range(6):
            self.check_held(self.ROWS[:count], ask_classes(self.ROWS[:count], *look_classes(count)))

    def test_later_classes_move_down(self):
        self.check_removed([0], [1, 2, 3, 4])
        self.check_removed([1], [0, 2, 3, 4])
        self.check_removed([4], [0, 1, 2, 3])
        self.check_removed([1, 1], [0, 3, 4])
        self.check_removed([0, 3], [1, 2, 3])
        self.check_removed([4, 0], [1, 2, 3])
        self.check_removed([2, 0, 1], [1, 4])
        self.check_removed([0, 0, 0, 0, 0], [])

    def test_a_new_class_comes_last(self):
        new = (7, 3, 1000, 1, 999, 1)
        replies = ask_classes(self.ROWS, ("remove_class", 1), ("add_class",) + new, *look_classes(5))
        self.assertEqual(replies[:2], [[4], [4]])
        self.check_held([self.ROWS[0]] + self.ROWS[2:] + [new], replies[2:])

    def test_two_alike_are_two(self):
        self.check_held([self.ROWS[0]] * 2, ask_classes([self.ROWS[0]] * 2, *look_classes(2)))

    def test_moments_need_not_be_in_lowest_terms(self):
        plain = ask_classes([(3, 1, 8, 2, 5, 4)] * 2, *look_classes(2))
        self.assertEqual(ask_classes([(3, 125000, 1000000, 400000, 1000000, 4)] * 2, *look_classes(2)), plain)

    def test_a_refusal_changes_no_class(self):
        calls = [("add_class", 9) + PLAIN[1:], ("add_class", 0) + PLAIN[1:]]
        calls += [("remove_class", 5), ("remove_class", HUGE)]
        replies = ask_classes(self.ROWS, *calls, *look_classes(5))
        self.assertEqual(replies[:4], [[-28], [-22], [-2], [-2]])
        self.check_held(self.ROWS, replies[4:])


if __name__ == "__main__":
    unittest.main()
