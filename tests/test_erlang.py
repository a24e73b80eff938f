"""erlang_b, erlang_c and fewest_servers."""

import unittest
from fractions import Fraction
from math import factorial

from tests.support import HUGE, ask, fractions_of, told

NAMES = ("erlang_b", "erlang_c")
LOADS = ((0, 1), (0, 1000000), (1, 1), (3, 2), (1, 1000000), (999999, 1000000), (20, 1), (60, 2), (1000000, 1))


def lost(servers, load):
    """The lost share in closed form: what the steps of the document come to."""
    parts = [load ** number / factorial(number) for number in range(servers + 1)]
    return parts[servers] / sum(parts)


def delayed(servers, load):
    share = lost(servers, load)
    return share / (1 - load / servers * (1 - share))


def reply_to(*call):
    """Give back the answer on a new instance without a station or a class."""
    return ask(("create",), call)[1]


class LostShare(unittest.TestCase):
    def test_few_servers(self):
        for num, den in LOADS:
            for servers in (0, 1, 2, 3, 7, 20, 60):
                wanted = told(lost(servers, Fraction(num, den)))
                self.assertEqual(reply_to("erlang_b", servers, num, den), wanted, (servers, num, den))

    def test_many_servers(self):
        for num, den in ((3, 2), (199, 1), (999999, 5003), (999983, 999979)):
            for servers in (199, 200):
                wanted = told(lost(servers, Fraction(num, den)))
                self.assertEqual(reply_to("erlang_b", servers, num, den), wanted, (servers, num, den))

    def test_by_hand(self):
        self.assertEqual(reply_to("erlang_b", 1, 3, 2), [0, 3, 5])
        self.assertEqual(reply_to("erlang_b", 2, 3, 2), [0, 9, 29])
        self.assertEqual(reply_to("erlang_b", 3, 3, 2), [0, 9, 67])
        self.assertEqual(reply_to("erlang_b", 2, 1, 1), [0, 1, 5])

    def test_no_servers_lose_everybody(self):
        for num, den in LOADS:
            self.assertEqual(reply_to("erlang_b", 0, num, den), [0, 1, 1])

    def test_no_load_loses_nobody(self):
        for servers in (1, 2, 199, 200):
            self.assertEqual(reply_to("erlang_b", servers, 0, 7), [0, 0, 1])

    def test_a_load_above_the_servers(self):
        self.assertEqual(reply_to("erlang_b", 1, 1000000, 1), [0, 1000000, 1000001])
        self.assertEqual(reply_to("erlang_b", 2, 2, 1), [0, 2, 5])


class DelayedShare(unittest.TestCase):
    def test_few_servers(self):
        for num, den in LOADS:
            for servers in (1, 2, 3, 7, 20, 21, 31, 60):
                load = Fraction(num, den)
                wanted = told(delayed(servers, load)) if load < servers else [-33]
                self.assertEqual(reply_to("erlang_c", servers, num, den), wanted, (servers, num, den))

    def test_many_servers(self):
        for num, den in ((3, 2), (198, 1), (999999, 5051), (999983, 999979)):
            for servers in (199, 200):
                wanted = told(delayed(servers, Fraction(num, den)))
                self.assertEqual(reply_to("erlang_c", servers, num, den), wanted, (servers, num, den))

    def test_by_hand(self):
        self.assertEqual(reply_to("erlang_c", 2, 3, 2), [0, 9, 14])
        # With one server it is the load itself.
        self.assertEqual(reply_to("erlang_c", 1, 3, 7), [0, 3, 7])
        self.assertEqual(reply_to("erlang_c", 2, 1, 1), [0, 1, 3])

    def test_no_load_delays_nobody(self):
        for servers in (1, 2, 200):
            self.assertEqual(reply_to("erlang_c", servers, 0, 1), [0, 0, 1])

    def test_just_below_and_just_at_the_servers(self):
        self.assertEqual(reply_to("erlang_c", 1, 999999, 1000000), [0, 999999, 1000000])
        self.assertEqual(reply_to("erlang_c", 1, 1000000, 1000000), [-33])
        for servers in (2, 3, 20, 199, 200):
            den = 999999 // servers
            below = reply_to("erlang_c", servers, servers * den - 1, den)
            self.assertEqual(below, told(delayed(servers, servers - Fraction(1, den))))
            self.assertEqual(reply_to("erlang_c", servers, servers * den, den), [-33])
            self.assertEqual(reply_to("erlang_c", servers, servers * den + 1, den), [-33])

    def test_no_servers(self):
        for num, den in LOADS:
            self.assertEqual(reply_to("erlang_c", 0, num, den), [-33])


class Ranges(unittest.TestCase):
    def test_servers(self):
        for name in NAMES:
            for servers in (1, 21, 61, 199, 200):
                self.assertEqual(len(reply_to(name, servers, 1, 2)), 3, (name, servers))
            for servers in (201, 202, HUGE):
                self.assertEqual(reply_to(name, servers, 1, 2), [-22], (name, servers))
        self.assertEqual(reply_to("erlang_b", 0, 1, 2), [0, 1, 1])

    def test_load(self):
        for name in NAMES:
            for num, den in ((0, 1), (1, 1), (199, 1), (999999, 999999), (1000000, 1000000), (1000000, 5001)):
                self.assertEqual(len(reply_to(name, 200, num, den)), 3, (name, num, den))
            for num, den in ((1000001, 1000000), (HUGE, 1000000), (1, 0), (0, 0), (1, 1000001), (0, HUGE)):
                self.assertEqual(reply_to(name, 200, num, den), [-22], (name, num, den))
        self.assertEqual(reply_to("erlang_b", 1, 1000000, 1)[0], 0)

    def test_range_ahead_of_the_load(self):
        # None of these has a load less than the number of servers, were it in range.
        for servers, num, den in ((201, 1000000, 1), (0, 1000001, 1), (0, 5, 0), (1, HUGE, 1), (0, 1, 1000001)):
            self.assertEqual(reply_to("erlang_c", servers, num, den), [-22])

    def test_load_need_not_be_in_lowest_terms(self):
        for name in NAMES:
            self.assertEqual(reply_to(name, 5, 750000, 500000), reply_to(name, 5, 3, 2))

    def test_answers_are_in_lowest_terms(self):
        for name in NAMES:
            for num, den in ((2, 1), (12, 8), (360360, 720720), (7, 5)):
                reply = reply_to(name, 12, num, den)
                self.assertEqual(reply, told(*fractions_of(reply)))


class FewestServers(unittest.TestCase):
    def wanted(self, kind, load, target):
        """The answer by trying out each number of servers."""
        for servers in range(61):
            if kind == 0 and lost(servers, load) <= target:
                return [servers]
            if kind == 1 and load < servers and delayed(servers, load) <= target:
                return [servers]
        return [-33]

    def test_by_trying(self):
        for kind in (0, 1):
            for load in ((0, 1), (1, 2), (3, 2), (2, 1), (999999, 100000), (50, 1), (1000000, 1)):
                for target in ((0, 1), (1, 1000000), (1, 100), (1, 3), (999999, 1000000), (1, 1), (7, 2)):
                    wanted = self.wanted(kind, Fraction(*load), Fraction(*target))
                    self.assertEqual(reply_to("fewest_servers", kind, *load, *target), wanted, (kind, load, target))

    def test_by_hand(self):
        self.assertEqual(reply_to("fewest_servers", 0, 3, 2, 1, 10), [4])
        self.assertEqual(reply_to("fewest_servers", 0, 1, 1, 1, 4), [2])
        self.assertEqual(reply_to("fewest_servers", 1, 1, 1, 1, 4), [3])

    def test_a_share_just_at_the_target_will_do(self):
        self.assertEqual(reply_to("fewest_servers", 0, 3, 2, 9, 29), [2])
        # 9/29 lies between 0.310344 and 0.310345, 9/14 between 0.642857 and 0.642858.
        self.assertEqual(reply_to("fewest_servers", 0, 3, 2, 310344, 1000000), [3])
        self.assertEqual(reply_to("fewest_servers", 0, 3, 2, 310345, 1000000), [2])
        self.assertEqual(reply_to("fewest_servers", 1, 3, 2, 9, 14), [2])
        self.assertEqual(reply_to("fewest_servers", 1, 3, 2, 642857, 1000000), [3])
        self.assertEqual(reply_to("fewest_servers", 1, 3, 2, 642858, 1000000), [2])

    def test_no_servers(self):
        self.assertEqual(reply_to("fewest_servers", 0, 5, 1, 1, 1), [0])
        self.assertEqual(reply_to("fewest_servers", 0, 5, 1, 1000000, 1), [0])
        self.assertEqual(reply_to("fewest_servers", 0, 0, 1, 1, 1), [0])
        self.assertEqual(reply_to("fewest_servers", 0, 0, 1, 999999, 1000000), [1])

    def test_the_delayed_share_needs_more_servers_than_load(self):
        self.assertEqual(reply_to("fewest_servers", 1, 0, 1, 1000000, 1), [1])
        self.assertEqual(reply_to("fewest_servers", 1, 5, 1, 1, 1), [6])
        self.assertEqual(reply_to("fewest_servers", 1, 499999, 100000, 1, 1), [5])
        self.assertEqual(reply_to("fewest_servers", 1, 59, 1, 1, 1), [60])
        self.assertEqual(reply_to("fewest_servers", 1, 599999, 10000, 1, 1), [60])
        self.assertEqual(reply_to("fewest_servers", 1, 60, 1, 1000000, 1), [-33])

    def test_target_0(self):
        for kind in (0, 1):
            self.assertEqual(reply_to("fewest_servers", kind, 0, 1, 0, 1), [1])
            self.assertEqual(reply_to("fewest_servers", kind, 1, 1000000, 0, 1), [-33])

    def test_just_60_will_do(self):
        # The least target in millionths that 60 servers reach, and one less.
        for load in (50, 55):
            for kind, share in ((0, lost(60, Fraction(load))), (1, delayed(60, Fraction(load)))):
                millionths = int(share * 1000000)
                self.assertEqual(reply_to("fewest_servers", kind, load, 1, millionths + 1, 1000000), [60])
                self.assertEqual(reply_to("fewest_servers", kind, load, 1, millionths, 1000000), [-33])

    def test_ranges(self):
        right = (0, 3, 2, 1, 10)
        self.assertEqual(reply_to("fewest_servers", *right), [4])
        for place, inside, outside in (
            (0, (0, 1), (2, 3, HUGE)),
            (1, (0, 1), (1000001, HUGE)),
            (2, (1, 1000000), (0, 1000001, HUGE)),
            (3, (1, 1000000), (1000001, HUGE)),
            (4, (1, 1000), (0, 1000001, HUGE)),
        ):
            for value in inside:
                reply = reply_to("fewest_servers", *right[:place], value, *right[place + 1:])
                self.assertGreaterEqual(reply[0], 0, (place, value))
            for value in outside:
                reply = reply_to("fewest_servers", *right[:place], value, *right[place + 1:])
                self.assertEqual(reply, [-22], (place, value))

    def test_greatest_numbers(self):
        self.assertEqual(reply_to("fewest_servers", 0, 1000000, 1, 1000000, 1), [0])
        self.assertEqual(reply_to("fewest_servers", 0, 1000000, 1, 999999, 1000000), [2])
        self.assertEqual(reply_to("fewest_servers", 0, 0, 1000000, 0, 1000000), [1])
        self.assertEqual(reply_to("fewest_servers", 0, 1, 1000000, 1, 1000000), [1])

    def test_range_ahead_of_no_result(self):
        for given in (
            (2, 1000000, 1, 0, 1), (1, 1000001, 1, 0, 1), (1, 100, 0, 0, 1), (0, 100, 1, 0, 0), (1, 100, 1, 0, HUGE),
        ):
            self.assertEqual(reply_to("fewest_servers", *given), [-22], given)

    def test_fractions_need_not_be_in_lowest_terms(self):
        self.assertEqual(reply_to("fewest_servers", 0, 750000, 500000, 100000, 1000000), [4])
        self.assertEqual(reply_to("fewest_servers", 1, 750000, 500000, 9000, 14000), [2])


class NeedsNothing(unittest.TestCase):
    CALLS = [("erlang_b", 2, 3, 2), ("erlang_c", 2, 3, 2), ("fewest_servers", 0, 3, 2, 1, 10)]

    def test_neither_a_station_nor_a_class(self):
        alone = [[0, 9, 29], [0, 9, 14], [4]]
        station = ("set_station", 2, 0, 3, 1, 0, 0, 0)
        one_class = ("add_class", 100000, 1, 1, 1, 1, 1)
        self.assertEqual(ask(("create",), *self.CALLS)[1:], alone)
        self.assertEqual(ask(("create",), station, *self.CALLS)[2:], alone)
        self.assertEqual(ask(("create",), one_class, *self.CALLS)[2:], alone)

    def test_but_an_instance(self):
        for call in self.CALLS:
            self.assertEqual(ask(call), [[-11]])


if __name__ == "__main__":
    unittest.main()
