"""The order of the errors, and that a refused call leaves everything as it was."""

import unittest

from tests.support import HUGE, NUMBERS, OF_AN_ORDER, ask, ask_classes, ask_station, look, look_classes

ENDLESS = (3, 0, 2, 2, 0, 0, 10)
BOUNDED = (3, 9, 2, 2, 5, 4, 10)
ADD = ("add_class", 1, 1, 2, 1, 2, 1)
# Two classes that are stable together, and with five of the second, too.
ROWS = [(2, 1, 16, 1, 3, 5), (1, 1, 8, 1, 6, 7)]

# Each operation but create, once with arguments in range and once with others.
RIGHT = [
    ("set_station",) + ENDLESS, ("set_servers", 2), ("set_rates", 1, 1), ADD, ("remove_class", 0),
    ("probability", 0), ("means",), ("rates",), ("shares",), ("response_times",), ("arrival_sees", 0),
    ("compare_servers", 2), ("erlang_b", 2, 3, 2), ("erlang_c", 2, 3, 2), ("fewest_servers", 0, 3, 2, 1, 10),
    ("loads",), ("wait_fifo",), ("waits", []), ("times", []), ("conservation", []), ("cost", []), ("best_order",),
    ("vacation_wait", 1, 1, 1, 1), ("summary",),
]
WRONG = [
    ("set_station", 0, 41, 0, 0, 41, HUGE, 1001), ("set_servers", 0), ("set_rates", 0, 0),
    ("add_class", 0, 0, 0, 0, 0, HUGE), ("remove_class", HUGE), ("probability", 1001), ("arrival_sees", 1001),
    ("compare_servers", 0), ("compare_servers", 21), ("erlang_b", 201, 0, 0), ("erlang_c", 201, 0, 0),
    ("erlang_c", 1, 1, 1), ("fewest_servers", 2, 0, 0, 0, 0), ("fewest_servers", 0, 1, 1, 0, 1),
    ("waits", [0]), ("times", [0, 1]), ("conservation", [HUGE]), ("cost", [0] * 8), ("vacation_wait", 0, 0, 0, 0),
]
OF_A_STATION = (
    "set_servers", "set_rates", "probability", "means", "rates", "shares", "response_times", "arrival_sees",
    "compare_servers",
)


class NoInstance(unittest.TestCase):
    def test_ahead_of_everything_else(self):
        for call in RIGHT + WRONG:
            self.assertEqual(ask(call), [[-11]], call)

    def test_each_operation_is_among_them(self):
        self.assertEqual({call[0] for call in RIGHT} | {"create"}, set(NUMBERS))

    def test_until_create_is_called(self):
        replies = ask(*RIGHT, *WRONG, ("create",), ADD)
        self.assertEqual(replies, [[-11]] * len(RIGHT + WRONG) + [[0], [0]])

    def test_nothing_is_there_behind_a_late_create(self):
        self.assertEqual(ask(("set_station",) + ENDLESS, ADD, ("create",), ("means",), ADD)[2:], [[0], [-6], [0]])


class NoStation(unittest.TestCase):
    def test_ahead_of_the_range(self):
        for call in RIGHT + WRONG:
            if call[0] in OF_A_STATION:
                self.assertEqual(ask(("create",), call), [[0], [-6]], call)

    def test_a_refused_station_is_none(self):
        calls = [("create",), ("set_station", 3, 0, 3, 1, 0, 0, 0), ("means",)]
        self.assertEqual(ask(*calls), [[0], [-33], [-6]])
        calls = [("create",), ("set_station", 0, 0, 3, 1, 0, 0, 0), ("set_servers", 1), ("set_rates", 1, 2)]
        self.assertEqual(ask(*calls), [[0], [-22], [-6], [-6]])


class RangeAheadOfStability(unittest.TestCase):
    def test_set_station(self):
        # None of these would be stable, were they in range.
        for settings in (
            (100001, 0, 1, 1, 0, 0, 0), (2, 0, 0, 1, 0, 0, 0), (2, 0, 1, 0, 0, 0, 0), (21, 0, 1, 21, 0, 0, 0),
            (1, 0, 9, 1, 0, 100001, 0), (2, 0, 1, 1, 0, 0, 1001), (2, 0, 1, 1, 0, 1, HUGE),
        ):
            self.assertEqual(ask(("create",), ("set_station",) + settings)[1], [-22], settings)

    def test_set_servers_and_compare_servers(self):
        for name in ("set_servers", "compare_servers"):
            self.assertEqual(ask_station(ENDLESS, (name, 0), (name, 1), (name, 2))[:2], [[-22], [-33]])
            self.assertEqual(ask_station(BOUNDED, (name, 6), (name, 0)), [[-22], [-22]])

    def test_set_rates(self):
        calls = [("set_rates", 100001, 1), ("set_rates", 100000, 0), ("set_rates", 100000, 1)]
        self.assertEqual(ask_station(ENDLESS, *calls), [[-22], [-22], [-33]])

    def test_probability_and_arrival_sees(self):
        for name in ("probability", "arrival_sees"):
            self.assertEqual(ask_station(BOUNDED, (name, 1001)), [[-22]])


class NothingChanged(unittest.TestCase):
    REFUSED = {
        ENDLESS: [
            ("set_station", 3, 0, 3, 1, 0, 0, 0), ("set_station", 0, 0, 3, 1, 0, 0, 0),
            ("set_station", 1, 0, 3, 1, 0, 1, 0), ("set_station", 1, 3, 5, 7, 6, 0, 0),
            ("set_station", 1, 3, 5, 1, 6, 0, 1001),
            ("set_servers", 0), ("set_servers", 21), ("set_servers", 1),
            ("set_rates", 0, 1), ("set_rates", 5, 0), ("set_rates", 5, 100001), ("set_rates", 5, 2),
            ("probability", 1001), ("arrival_sees", 1001), ("compare_servers", 0), ("compare_servers", 1),
        ],
        BOUNDED: [
            ("set_station", 3, 0, 3, 1, 0, 0, 0), ("set_station", 3, 0, 3, 1, 41, 0, 0),
            ("set_servers", 6), ("set_servers", 0), ("set_rates", 5, 0), ("set_rates", 100001, 7),
            ("probability", HUGE), ("arrival_sees", HUGE), ("compare_servers", 6), ("compare_servers", 0),
        ],
    }

    # Refused with any station and with the two classes of ROWS.
    ALWAYS = [
        ("add_class", 0, 1, 2, 1, 2, 1), ("add_class", 1, 1, 2, 1, 5, 1), ("add_class", 1, 1, 2, 1, 2, HUGE),
        ("remove_class", 2), ("remove_class", HUGE),
        ("erlang_b", 201, 1, 1), ("erlang_c", 201, 1, 1), ("erlang_c", 1, 1, 1),
        ("fewest_servers", 2, 1, 1, 1, 1), ("fewest_servers", 1, 60, 1, 1, 1),
        ("waits", [0, 0]), ("times", [1]), ("conservation", []), ("cost", [0, 1, 2]), ("waits", [1, 0] * 4),
        ("vacation_wait", 2, 1, 3, 1), ("vacation_wait", 0, 1, 3, 1),
    ]

    def check(self, settings, refused, calls):
        """Check that the refused call leaves all that the calls show of the station and of the classes."""
        adds = [("add_class",) + row for row in ROWS]
        calls = calls + look_classes(len(ROWS))
        shown = ask_station(settings, *adds, *calls)[2:]
        replies = ask_station(settings, *adds, refused, *calls)[2:]
        self.assertLess(replies[0][0], 0, refused)
        self.assertEqual(len(replies[0]), 1, refused)
        self.assertEqual(replies[1:], shown, refused)

    def test_station_and_classes(self):
        for settings, calls in self.REFUSED.items():
            for refused in calls + self.ALWAYS:
                self.check(settings, refused, look((2, 3, 5)))

    def test_a_sixth_class(self):
        rows = [ROWS[0]] + [ROWS[1]] * 4
        calls = look_classes(5) + look((2, 3))
        station = ("set_station",) + ENDLESS
        replies = ask_classes(rows, station, ADD, *calls)
        self.assertEqual(replies[1], [-28])
        self.assertEqual(replies[2:], ask_classes(rows, station, *calls)[1:])

    def test_without_classes(self):
        refused = [("wait_fifo",), ("vacation_wait", 1, 1, 1, 1), ("remove_class", 0), ("waits", [0]), ("means",)]
        replies = ask(("create",), *refused, *look_classes(0))
        self.assertEqual(replies[1:6], [[-6], [-6], [-2], [-22], [-6]])
        self.assertEqual(replies[6:], ask(("create",), *look_classes(0))[1:])

    def test_classes_that_are_not_stable(self):
        refused = [("wait_fifo",), ("best_order",), ("vacation_wait", 1, 1, 1, 1)]
        refused += [(name, [1, 2, 0]) for name in OF_AN_ORDER]
        replies = ask_classes(ROWS + [(1, 1, 1, 1, 1, 1)], *refused, ("remove_class", 2), *look_classes(2))
        self.assertEqual(replies[:8], [[-33]] * 7 + [[2]])
        self.assertEqual(replies[8:], ask_classes(ROWS, *look_classes(2)))

    def test_settings_that_show_later(self):
        # The capacity, the patience and the balking of a refused station must not be there later either.
        refused = ("set_station", 1, 3, 5, 7, 6, 9, 800)
        calls = [("set_servers", 7), ("set_rates", 8, 2)] + look((4, 5, 20))
        self.assertEqual(ask_station(ENDLESS, refused, *calls)[1:], ask_station(ENDLESS, *calls))


if __name__ == "__main__":
    unittest.main()
