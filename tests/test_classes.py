"""add_class and remove_class."""

import unittest

from lonestations.changes import change
from lonestations.instance import Instance
from tests.support import HUGE, NUMBERS, ask

# Mean 1/2, second moment 1/2.
PLAIN = (1, 1, 2, 1, 2, 1)
ADD = ("add_class",) + PLAIN


class AddClass(unittest.TestCase):
    def check(self, reply, *given):
        self.assertEqual(ask(("create",), ("add_class",) + given)[1], [reply], given)

    def check_place(self, place, inside, outside):
        for value in inside:
            self.check(0, *PLAIN[:place], value, *PLAIN[place + 1:])
        for value in outside:
            self.check(-22, *PLAIN[:place], value, *PLAIN[place + 1:])

    def test_arrival(self):
        self.check_place(0, (1, 2, 99999, 100000), (0, 100001, HUGE))

    def test_cost(self):
        self.check_place(5, (0, 1, 99999, 100000), (100001, HUGE))

    def test_first_num(self):
        self.check(-22, 1, 0, 1, 1, 1, 1)
        self.check(0, 1, 1, 1, 1, 1, 1)
        self.check(0, 1, 1000000, 1000000, 1, 1, 1)
        self.check(-22, 1, 1000001, 1000000, 2, 1, 1)
        self.check(-22, 1, HUGE, 1000000, 1000000, 1, 1)

    def test_first_den(self):
        self.check(-22, 1, 1, 0, 1000000, 1, 1)
        self.check(0, 1, 1, 1, 1000000, 1, 1)
        self.check(0, 1, 1, 1000000, 1, 1, 1)
        self.check(-22, 1, 1, 1000001, 1, 1, 1)
        self.check(-22, 1, 1, HUGE, 1, 1, 1)

    def test_second_num(self):
        # A mean is above 0, so a second moment of 0 is never enough.
        self.check(-22, 1, 1, 1000000, 0, 1, 1)
        self.check(0, 1, 1, 1000000, 1, 1, 1)
        self.check(0, 1, 1, 1, 1000000, 1, 1)
        self.check(-22, 1, 1, 1, 1000001, 1, 1)
        self.check(-22, 1, 1, 1, HUGE, 1, 1)

    def test_second_den(self):
        self.check(-22, 1, 1, 2, 1, 0, 1)
        self.check(-22, 1, 1, 2, 0, 0, 1)
        self.check(0, 1, 1, 2, 1, 1, 1)
        self.check(0, 1, 1, 2, 1000000, 1000000, 1)
        self.check(-22, 1, 1, 2, 1000000, 1000001, 1)
        self.check(-22, 1, 1, 1000000, 1, HUGE, 1)

    def test_second_moment_is_at_least_the_square_of_the_mean(self):
        self.check(0, 1, 1, 2, 1, 4, 1)
        self.check(-22, 1, 1, 2, 1, 5, 1)
        self.check(0, 1, 2, 3, 4, 9, 1)
        self.check(-22, 1, 2, 3, 3, 7, 1)
        self.check(0, 1, 3, 1, 9, 1, 1)
        self.check(-22, 1, 3, 1, 8, 1, 1)
        self.check(0, 1, 1000000, 1000, 1000000, 1, 1)
        self.check(-22, 1, 1000000, 1000, 999999, 1, 1)
        self.check(0, 1, 1, 1000, 1, 1000000, 1)
        self.check(-22, 1, 1, 999, 1, 1000000, 1)

    def test_fractions_need_not_be_in_lowest_terms(self):
        self.check(0, 1, 500000, 1000000, 250000, 1000000, 1)
        self.check(-22, 1, 500000, 1000000, 249999, 1000000, 1)

    def test_classes_need_not_be_stable(self):
        self.check(0, 100000, 1000, 1, 1000000, 1, 100000)

    def test_five_classes_and_a_sixth(self):
        replies = ask(("create",), *[ADD] * 7)
        self.assertEqual(replies, [[0], [0], [1], [2], [3], [4], [-28], [-28]])

    def test_a_sixth_out_of_range(self):
        replies = ask(("create",), *[ADD] * 5, ("add_class", 0) + PLAIN[1:], ("add_class",) + PLAIN[:5] + (HUGE,))
        self.assertEqual(replies[6:], [[-22], [-22]])

    def test_a_refused_class_is_not_added(self):
        replies = ask(("create",), ADD, ("add_class", 0) + PLAIN[1:], ("add_class", 1, 1, 2, 1, 5, 1), ADD)
        self.assertEqual(replies, [[0], [0], [-22], [-22], [1]])

    def test_a_refused_sixth_is_not_added(self):
        replies = ask(("create",), *[ADD] * 6, ("remove_class", 0), ADD, ADD)
        self.assertEqual(replies[6:], [[-28], [4], [4], [-28]])

    def test_it_needs_no_station(self):
        replies = ask(("create",), ADD, ("means",), ("remove_class", 0))
        self.assertEqual(replies, [[0], [0], [-6], [0]])


class RemoveClass(unittest.TestCase):
    def test_it_answers_how_many_remain(self):
        replies = ask(("create",), ADD, ADD, ADD, ("remove_class", 1), ("remove_class", 1), ("remove_class", 0))
        self.assertEqual(replies[4:], [[2], [1], [0]])

    def test_a_new_class_has_the_next_number(self):
        replies = ask(("create",), ADD, ADD, ADD, ("remove_class", 0), ADD, ("remove_class", 2), ADD)
        self.assertEqual(replies[4:], [[2], [2], [2], [2]])

    def test_no_such_class(self):
        for number in (0, 1, 5, HUGE):
            self.assertEqual(ask(("create",), ("remove_class", number))[1], [-2])
        for number in (2, 3, 5, HUGE):
            self.assertEqual(ask(("create",), ADD, ADD, ("remove_class", number))[3], [-2])
        for number in (5, 6, HUGE):
            self.assertEqual(ask(("create",), *[ADD] * 5, ("remove_class", number))[6], [-2])

    def test_each_number_is_taken(self):
        for number in range(5):
            self.assertEqual(ask(("create",), *[ADD] * 5, ("remove_class", number))[6], [4])

    def test_the_last_number_is_gone(self):
        replies = ask(("create",), ADD, ADD, ("remove_class", 0), ("remove_class", 1), ("remove_class", 0))
        self.assertEqual(replies[3:], [[1], [-2], [0]])

    def test_a_refusal_removes_nothing(self):
        replies = ask(("create",), ADD, ADD, ("remove_class", 2), ("remove_class", HUGE), ("remove_class", 1))
        self.assertEqual(replies[3:], [[-2], [-2], [1]])


class WhatIsHeld(unittest.TestCase):
    """No call of the desk tells yet which classes are there, so these look at the instance itself."""

    def held(self, removed):
        instance = Instance()
        for arrival in range(1, 6):
            change(instance, NUMBERS["add_class"], [arrival] + list(PLAIN[1:]))
        for number in removed:
            change(instance, NUMBERS["remove_class"], [number])
        return instance.classes

    def test_a_class_is_held_as_it_was_given(self):
        self.assertEqual(self.held([]), [(arrival,) + PLAIN[1:] for arrival in range(1, 6)])

    def test_later_classes_move_down(self):
        self.assertEqual([held[0] for held in self.held([1])], [1, 3, 4, 5])
        self.assertEqual([held[0] for held in self.held([1, 1])], [1, 4, 5])
        self.assertEqual([held[0] for held in self.held([0, 3])], [2, 3, 4])
        self.assertEqual([held[0] for held in self.held([4, 0])], [2, 3, 4])

    def test_a_refusal_changes_no_class(self):
        instance = Instance()
        for arrival in range(1, 6):
            change(instance, NUMBERS["add_class"], [arrival] + list(PLAIN[1:]))
        before = list(instance.classes)
        change(instance, NUMBERS["add_class"], [9] + list(PLAIN[1:]))
        change(instance, NUMBERS["add_class"], [0] + list(PLAIN[1:]))
        change(instance, NUMBERS["remove_class"], [5])
        self.assertEqual(instance.classes, before)


if __name__ == "__main__":
    unittest.main()
