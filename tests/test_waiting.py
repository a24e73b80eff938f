"""loads, wait_fifo, waits, times, conservation, cost, best_order, vacation_wait and summary."""

import unittest
from fractions import Fraction
from itertools import permutations

from tests.support import HUGE, OF_AN_ORDER, ClassModel, ask, ask_classes, class_lists, told

# Loads 1/4 and 1/2, deterministic and not, R = 5/16.
TWO = [(1, 1, 4, 1, 8, 1), (1, 1, 2, 1, 2, 4)]
THREE = [(3, 1, 7, 2, 49, 5), (2, 1, 9, 1, 3, 0), (5, 1, 50, 1, 2500, 100000)]
FIVE = [(1, 1, 8, 1, 8, 7), (2, 1, 16, 1, 3, 1), (3, 1, 99, 1, 7, 9), (4, 1, 33, 5, 6, 0), (5, 1, 77, 1, 11, 2)]
# Two classes with the load 1/2 each: just not stable.
FULL = [(1, 1, 2, 1, 2, 1), (1, 1, 2, 1, 2, 1)]
STATION = ("set_station", 2, 0, 3, 1, 0, 0, 0)


def orders_of(rows):
    """Give back all orders of these classes."""
    return [list(order) for order in permutations(range(len(rows)))]


class AgainstTheModel(unittest.TestCase):
    def check_orders(self, name, reckon):
        for rows in class_lists():
            model = ClassModel(rows)
            orders = orders_of(rows)
            for start in range(0, len(orders), 30):
                some = orders[start:start + 30]
                replies = ask_classes(rows, *[(name, order) for order in some])
                self.assertEqual(replies, [reckon(model, order) for order in some], rows)

    def test_loads(self):
        for rows in class_lists():
            self.assertEqual(ask_classes(rows, ("loads",)), [ClassModel(rows).loads()])

    def test_wait_fifo(self):
        for rows in class_lists():
            wanted = told(ClassModel(rows).fifo()) if rows else [-6]
            self.assertEqual(ask_classes(rows, ("wait_fifo",)), [wanted], rows)

    def test_waits(self):
        self.check_orders("waits", ClassModel.waits)

    def test_times(self):
        self.check_orders("times", ClassModel.times)

    def test_conservation(self):
        self.check_orders("conservation", ClassModel.conservation)

    def test_cost(self):
        self.check_orders("cost", ClassModel.cost)

    def test_best_order(self):
        for rows in class_lists():
            wanted = [len(rows)] + ClassModel(rows).best_order()
            self.assertEqual(ask_classes(rows, ("best_order",)), [wanted], rows)

    def test_vacation_wait(self):
        for rows in class_lists()[1:]:
            for given in ((1, 1, 1, 1), (2, 3, 5, 7), (1000000, 7, 1000000, 1), (1, 1000000, 3, 1000000)):
                if given[0] ** 2 * given[3] <= given[2] * given[1] ** 2:
                    longer = Fraction(given[2], given[3]) / (2 * Fraction(given[0], given[1]))
                    wanted = told(ClassModel(rows).fifo() + longer)
                    self.assertEqual(ask_classes(rows, ("vacation_wait",) + given), [wanted], (rows, given))

    def test_summary(self):
        for rows in class_lists():
            self.assertEqual(ask_classes(rows, ("summary",)), [[0, len(rows), 1]])


class Numbers(unittest.TestCase):
    """Answers worked out by hand."""

    def check(self, rows, call, reply):
        self.assertEqual(ask_classes(rows, call), [reply])

    def test_one_class(self):
        # Load 1/2, R = 1/4.
        rows = [(1, 1, 2, 1, 2, 3)]
        self.check(rows, ("loads",), [2, 1, 2, 1, 2])
        self.check(rows, ("wait_fifo",), [0, 1, 2])
        self.check(rows, ("waits", [0]), [1, 1, 2])
        self.check(rows, ("times", [0]), [1, 1, 1])
        self.check(rows, ("conservation", [0]), [0, 1, 4, 1, 4])
        self.check(rows, ("cost", [0]), [0, 3, 2])
        self.check(rows, ("best_order",), [1, 0])
        self.check(rows, ("vacation_wait", 1, 1, 2, 1), [0, 3, 2])

    def test_two_classes(self):
        self.check(TWO, ("times", [0, 1]), [2, 1, 3, 7, 3])
        # Class 1 by itself: 1/2 + 1/4 / (1/2); class 0 behind it: 1/4 / (1/2) + 5/16 / (1/8).
        self.check(TWO, ("times", [1, 0]), [2, 3, 1, 1, 1])
        self.check(TWO, ("waits", [1, 0]), [2, 5, 2, 5, 8])

    def test_answers_stand_by_number_and_not_by_the_order(self):
        rows = [(1, 1, 10, 1, 10, 1), (1, 1, 5, 1, 5, 1), (1, 3, 10, 3, 10, 1)]
        # R = 3/10; the order is 2, 0, 1 with free shares 1, 7/10, 6/10, 4/10.
        first, second, third = Fraction(3, 7), Fraction(5, 7), Fraction(5, 4)
        self.check(rows, ("waits", [2, 0, 1]), told(second, third, first, first=3))

    def test_no_class(self):
        self.check([], ("loads",), [1, 0, 1])
        self.check([], ("wait_fifo",), [-6])
        self.check([], ("waits", []), [0])
        self.check([], ("times", []), [0])
        self.check([], ("conservation", []), [0, 0, 1, 0, 1])
        self.check([], ("cost", []), [0, 0, 1])
        self.check([], ("best_order",), [0])
        self.check([], ("vacation_wait", 1, 1, 1, 1), [-6])
        self.check([], ("summary",), [0, 0, 1])

    def test_five_classes(self):
        rows = [(number, 1, 20, 1, 400, number) for number in range(1, 6)]
        self.check(rows, ("loads",), [6, 1, 20, 1, 10, 3, 20, 1, 5, 1, 4, 3, 4])
        self.check(rows, ("wait_fifo",), [0, 3, 40])
        self.check(rows, ("best_order",), [5, 4, 3, 2, 1, 0])
        self.check(rows, ("conservation", [3, 1, 4, 0, 2]), [0, 9, 160, 9, 160])

    def test_cost_0(self):
        rows = [(1, 1, 4, 1, 8, 0), (1, 1, 2, 1, 2, 0)]
        self.check(rows, ("cost", [0, 1]), [0, 0, 1])
        self.check(rows, ("cost", [1, 0]), [0, 0, 1])
        self.check(rows, ("best_order",), [2, 0, 1])
        self.check(rows[:1] + TWO[1:], ("cost", [0, 1]), [0, 20, 3])

    def test_many_digits(self):
        # A load of 499,999 / 500,000 and a great second moment.
        rows = [(99999, 1, 199999, 1000000, 1, 100000), (99999, 1, 199999, 999999, 1, 99999)]
        model = ClassModel(rows)
        self.assertGreater(model.cost([0, 1])[1], 2 ** 64)
        self.check(rows, ("cost", [0, 1]), model.cost([0, 1]))
        self.check(rows, ("times", [1, 0]), model.times([1, 0]))


class BestOrder(unittest.TestCase):
    def check(self, rows, order):
        self.assertEqual(ask_classes(rows, ("best_order",)), [[len(rows)] + order], rows)

    def test_by_cost(self):
        self.check([(1, 1, 9, 1, 9, cost) for cost in (3, 5, 0, 4, 1)], [1, 3, 0, 4, 2])

    def test_by_mean(self):
        self.check([(1, 1, den, 1, 9, 2) for den in (9, 12, 10, 7, 11)], [1, 4, 2, 0, 3])

    def test_by_the_quotient(self):
        # The quotients are 8, 9, 10: neither the costs nor the means stand so.
        self.check([(1, 1, 4, 1, 4, 2), (1, 1, 9, 1, 9, 1), (1, 3, 10, 3, 10, 3)], [2, 1, 0])

    def test_arrivals_have_nothing_to_do_with_it(self):
        self.check([(5, 1, 99, 1, 9, 1), (1, 1, 99, 1, 9, 2)], [1, 0])

    def test_equal_quotients_by_number(self):
        self.check([(1, 1, 9, 1, 9, 4)] * 5, [0, 1, 2, 3, 4])
        self.check([(1, 1, 10, 1, 9, 2), (1, 2, 10, 1, 9, 4), (1, 1, 20, 1, 9, 1), (1, 4, 10, 2, 9, 8)], [0, 1, 2, 3])
        self.check([(1, 1, 9, 1, 9, 1), (1, 1, 9, 1, 9, 3), (1, 1, 9, 1, 9, 1), (1, 1, 9, 1, 9, 3)], [1, 3, 0, 2])

    def test_a_mean_need_not_be_in_lowest_terms(self):
        self.check([(1, 100, 900, 1, 9, 1), (1, 1, 9, 1, 9, 1), (1, 3, 27, 1, 9, 1)], [0, 1, 2])

    def test_quotients_that_hardly_differ(self):
        # 99999 / 100000, 99998 / 99999 and 99997 / 99998 millions.
        rows = [(1, mean, 1000000, 1, 9, mean - 1) for mean in (99998, 99999, 100000)]
        self.check(rows, [2, 1, 0])
        self.check(rows[::-1], [0, 1, 2])

    def test_not_stable(self):
        self.assertEqual(ask_classes(FULL, ("best_order",)), [[-33]])


class Orders(unittest.TestCase):
    WRONG = {
        1: ([], [1], [0, 0], [0, 1], [HUGE], [0] * 8),
        2: ([], [0], [1], [0, 0], [1, 1], [0, 2], [1, 2], [2, 0], [0, HUGE], [0, 1, 0], [0, 1, 1], [0, 1, 2],
            [0, 1] * 4, list(range(8))),
        3: ([0, 1], [0, 1, 1], [0, 2, 2], [0, 1, 3], [3, 2, 1], [0, 1, 2, 3], [2, 1, HUGE], [0, 1, 2, 0]),
    }

    def test_right(self):
        for name in OF_AN_ORDER:
            for rows in (TWO, THREE):
                for order in orders_of(rows):
                    self.assertGreaterEqual(ask_classes(rows, (name, order))[0][0], 0, (name, order))

    def test_wrong(self):
        for name in OF_AN_ORDER:
            for rows in (TWO[:1], TWO, THREE):
                for order in self.WRONG[len(rows)]:
                    self.assertEqual(ask_classes(rows, (name, order)), [[-22]], (name, order))

    def test_wrong_without_classes(self):
        for name in OF_AN_ORDER:
            for order in ([0], [1], [0, 0], [HUGE], [0] * 8):
                self.assertEqual(ask_classes([], (name, order)), [[-22]], (name, order))

    def test_five_classes(self):
        for name in OF_AN_ORDER:
            replies = ask_classes(
                FIVE, (name, [4, 2, 0, 1, 3]), (name, [4, 2, 0, 1]), (name, [4, 2, 0, 1, 3, 5]),
                (name, [4, 2, 0, 1, 1]), (name, [4, 2, 0, 1, 5]), (name, [0, 1, 2, 3, 4, 0, 1, 2]),
            )
            self.assertGreaterEqual(replies[0][0], 0, name)
            self.assertEqual(replies[1:], [[-22]] * 5, name)

    def test_a_removed_class_is_none(self):
        for name in OF_AN_ORDER:
            replies = ask_classes(THREE, ("remove_class", 0), (name, [0, 1, 2]), (name, [1, 2]), (name, [1, 0]))
            self.assertEqual(replies[1:3], [[-22], [-22]])
            self.assertGreaterEqual(replies[3][0], 0)

    def test_order_ahead_of_stability(self):
        for name in OF_AN_ORDER:
            replies = ask_classes(FULL, (name, []), (name, [0, 0]), (name, [0, 2]), (name, [0, 1]), (name, [1, 0]))
            self.assertEqual(replies, [[-22], [-22], [-22], [-33], [-33]])

    def test_the_next_call_is_found_behind_an_order(self):
        replies = ask_classes(TWO, ("waits", []), ("summary",), ("cost", [24] * 8), ("summary",), ("times", [0, 1]))
        self.assertEqual(replies, [[-22], [0, 2, 1], [-22], [0, 2, 1], [2, 1, 3, 7, 3]])


class Stability(unittest.TestCase):
    # Each with loads that leave just a little, and the same with loads that leave nothing or less than that.
    JUST = [
        ([(1, 999999, 1000000, 1, 1, 1)], [(1, 1000000, 1000000, 1, 1, 1)]),
        ([(1, 999999, 1000000, 1, 1, 1)], [(1, 1000000, 999999, 2, 1, 1)]),
        ([(1, 1, 3, 1, 9, 1)] * 2 + [(1, 333333, 1000000, 1, 9, 1)], [(1, 1, 3, 1, 9, 1)] * 3),
        ([(100000, 1, 500001, 1, 1, 1)] * 5, [(100000, 1, 500000, 1, 1, 1)] * 5),
        ([(1, 1, 2, 1, 2, 1), (49999, 1, 100000, 1, 1, 1)], FULL),
    ]
    CALLS = [("wait_fifo",), ("best_order",), ("vacation_wait", 1, 1, 1, 1)]

    def calls(self, rows):
        order = list(reversed(range(len(rows))))
        return self.CALLS + [(name, order) for name in OF_AN_ORDER]

    def test_just_stable(self):
        for rows, more in self.JUST:
            replies = ask_classes(rows, *self.calls(rows), ("summary",))
            self.assertEqual([reply for reply in replies if reply[0] < 0], [], rows)
            self.assertEqual(replies[-1], [0, len(rows), 1])

    def test_just_not_stable(self):
        for fewer, rows in self.JUST:
            replies = ask_classes(rows, *self.calls(rows), ("summary",))
            self.assertEqual(replies[:-1], [[-33]] * 7, rows)
            self.assertEqual(replies[-1], [0, len(rows), 0])

    def test_far_from_stable(self):
        rows = [(100000, 1000, 1, 1000000, 1, 100000)] * 5
        replies = ask_classes(rows, *self.calls(rows), ("summary",), ("loads",))
        self.assertEqual(replies, [[-33]] * 7 + [[0, 5, 0], [6] + [100000000, 1] * 5 + [500000000, 1]])

    def test_loads_need_no_stability(self):
        self.assertEqual(ask_classes(FULL, ("loads",)), [[3, 1, 2, 1, 2, 1, 1]])

    def test_the_class_ahead_would_be_stable_by_itself(self):
        for name in OF_AN_ORDER:
            self.assertEqual(ask_classes(TWO + [(1, 1, 4, 1, 16, 1)], (name, [0, 1, 2])), [[-33]])

    def test_a_class_more_and_a_class_less(self):
        replies = ask_classes(FULL[:1], ("summary",), ("add_class",) + FULL[1], ("summary",), ("wait_fifo",),
                              ("remove_class", 0), ("summary",), ("wait_fifo",))
        self.assertEqual(replies, [[0, 1, 1], [1], [0, 2, 0], [-33], [1], [0, 1, 1], [0, 1, 2]])


class VacationWait(unittest.TestCase):
    def check(self, reply, *given):
        self.assertEqual(ask_classes(TWO, ("vacation_wait",) + given), [reply], given)

    def test_by_hand(self):
        self.check([0, 7, 4], 1, 1, 1, 1)
        self.check([0, 9, 4], 1, 1, 2, 1)
        self.check([0, 3, 2], 1, 2, 1, 4)
        self.check([0, 5, 2], 2, 5, 1, 1)

    def test_a_second_moment_that_is_just_the_square_of_the_mean(self):
        self.check([0, 19, 12], 2, 3, 4, 9)
        self.check([-22], 2, 3, 3, 7)
        self.check([0, 19, 12], 200, 300, 444444, 999999)
        self.check([-22], 2, 3, 444444, 1000000)
        self.check([0, 2005, 4], 1000, 1, 1000000, 1)
        self.check([-22], 1000, 1, 999999, 1)
        self.check([-22], 1001, 1, 1000000, 1)

    def test_first_num(self):
        self.check([-22], 0, 1, 1, 1)
        self.assertEqual(ask_classes(TWO, ("vacation_wait", 1000000, 1000000, 1, 1)), [[0, 7, 4]])
        self.check([-22], 1000001, 1000000, 2, 1)
        self.check([-22], HUGE, 1000000, 1000000, 1)

    def test_first_den(self):
        self.check([-22], 1, 0, 1000000, 1)
        self.check([0, 2000005, 4], 1, 1000000, 1, 1)
        self.check([-22], 1, 1000001, 1, 1)
        self.check([-22], 1, HUGE, 1, 1)

    def test_second_num(self):
        self.check([-22], 1, 1000000, 0, 1)
        self.check([0, 2000005, 4], 1, 1, 1000000, 1)
        self.check([-22], 1, 1, 1000001, 1)
        self.check([-22], 1, 1, HUGE, 1)

    def test_second_den(self):
        self.check([-22], 1, 2, 1, 0)
        self.check([-22], 1, 2, 0, 0)
        self.check([0, 9, 4], 1, 2, 1000000, 1000000)
        self.check([-22], 1, 2, 1000000, 1000001)
        self.check([-22], 1, 1000000, 1, HUGE)

    def test_range_ahead_of_no_class_ahead_of_stability(self):
        wrong, right = ("vacation_wait", 2, 1, 3, 1), ("vacation_wait", 2, 1, 4, 1)
        self.assertEqual(ask_classes([], wrong, right), [[-22], [-6]])
        self.assertEqual(ask_classes(FULL, wrong, right), [[-22], [-33]])

    def test_it_is_longer_than_without_vacations(self):
        for rows in class_lists()[1:]:
            without, with_them = ask_classes(rows, ("wait_fifo",), ("vacation_wait", 3, 1, 12, 1))
            self.assertEqual(Fraction(*with_them[1:]) - Fraction(*without[1:]), 2)


class Summary(unittest.TestCase):
    def test_station_and_classes(self):
        adds = [("add_class",) + row for row in TWO]
        calls = [("create",), ("summary",), STATION, ("summary",), adds[0], ("summary",), adds[1], ("summary",)]
        self.assertEqual(ask(*calls)[1::2], [[0, 0, 1], [1, 0, 1], [1, 1, 1], [1, 2, 1]])

    def test_not_stable_with_a_station(self):
        adds = [("add_class",) + row for row in FULL]
        self.assertEqual(ask(("create",), STATION, *adds, ("summary",))[-1], [1, 2, 0])

    def test_a_refused_station_and_a_refused_class(self):
        calls = [("create",), ("set_station", 3, 0, 3, 1, 0, 0, 0), ("add_class", 0, 1, 1, 1, 1, 1), ("summary",)]
        self.assertEqual(ask(*calls)[1:], [[-33], [-22], [0, 0, 1]])

    def test_create_empties_it(self):
        replies = ask(("create",), STATION, ("add_class",) + TWO[0], ("summary",), ("create",), ("summary",))
        self.assertEqual(replies[3:], [[1, 1, 1], [0], [0, 0, 1]])


class Apart(unittest.TestCase):
    """The station and the classes have nothing to do with each other."""

    def test_figures_of_the_classes_need_no_station(self):
        calls = [("loads",), ("wait_fifo",), ("best_order",)] + [(name, [1, 0]) for name in OF_AN_ORDER]
        self.assertEqual(ask_classes(TWO, *calls), ask_classes(TWO, STATION, *calls)[1:])

    def test_a_station_is_no_class(self):
        self.assertEqual(ask(("create",), STATION, ("wait_fifo",), ("loads",))[2:], [[-6], [1, 0, 1]])


if __name__ == "__main__":
    unittest.main()
