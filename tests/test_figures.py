"""probability, means, rates, shares, response_times, arrival_sees and compare_servers."""

import unittest
from fractions import Fraction

from tests.support import HUGE, Model, ask_station, fractions_of, look, look_classes, stations, told

ENDLESS = (2, 0, 3, 1, 0, 0, 0)


class AgainstTheModel(unittest.TestCase):
    def check(self, call, reckon):
        for settings in stations():
            self.assertEqual(ask_station(settings, call), [reckon(Model(*settings))], (settings, call))

    def test_probability(self):
        for customers in (0, 1, 2, 3, 4, 5, 6, 7, 8, 21, 39, 40, 41):
            self.check(("probability", customers), lambda model: model.probability(customers))

    def test_means(self):
        self.check(("means",), Model.means)

    def test_rates(self):
        self.check(("rates",), Model.rates)

    def test_shares(self):
        self.check(("shares",), Model.shares)

    def test_response_times(self):
        self.check(("response_times",), Model.response_times)

    def test_arrival_sees(self):
        for customers in (0, 1, 2, 5, 6, 7, 8, 40, 41):
            self.check(("arrival_sees", customers), lambda model: model.arrival_sees(customers))

    def test_compare_servers(self):
        for settings in stations():
            now = Model(*settings)
            for servers in (settings[3], settings[4] or 20):
                if servers <= 20:
                    then = Model(*(settings[:3] + (servers,) + settings[4:]))
                    wanted = told(then.customers() - now.customers(), then.accepted() - now.accepted())
                    self.assertEqual(ask_station(settings, ("compare_servers", servers)), [wanted], settings)


class Numbers(unittest.TestCase):
    """Answers worked out by hand."""

    def check(self, settings, call, *values):
        self.assertEqual(ask_station(settings, call), [told(*values)])

    def test_one_server_without_a_limit(self):
        settings = (1, 0, 2, 1, 0, 0, 0)
        self.check(settings, ("means",), 1, Fraction(1, 2), Fraction(1, 2))
        self.check(settings, ("rates",), 1, 1, 1, 0)
        self.check(settings, ("response_times",), 1, Fraction(1, 2))
        self.check(settings, ("probability", 4), Fraction(1, 32))
        self.check(settings, ("arrival_sees", 4), Fraction(1, 32))

    def test_two_servers_without_a_limit(self):
        # The load is 3/2: probabilities 1/7, 3/14, 9/56, and 3/4 as much from there on.
        settings = (3, 0, 2, 2, 0, 0, 0)
        self.check(settings, ("probability", 0), Fraction(1, 7))
        self.check(settings, ("probability", 1), Fraction(3, 14))
        self.check(settings, ("probability", 2), Fraction(9, 56))
        self.check(settings, ("probability", 3), Fraction(27, 224))
        self.check(settings, ("means",), Fraction(24, 7), Fraction(27, 14), Fraction(3, 2))
        self.check(settings, ("shares",), 0, Fraction(9, 14), Fraction(3, 4))

    def test_lost_customers(self):
        # Erlang's lost share with 2 servers and the load 3/2 is 9/29.
        settings = (3, 0, 2, 2, 2, 0, 0)
        self.check(settings, ("probability", 2), Fraction(9, 29))
        self.check(settings, ("probability", 3), 0)
        self.check(settings, ("shares",), Fraction(9, 29), 0, Fraction(15, 29))
        self.check(settings, ("rates",), 3, Fraction(60, 29), Fraction(60, 29), 0)
        self.check(settings, ("arrival_sees", 2), Fraction(9, 29))

    def test_sources_and_capacity(self):
        # Two sources, room for one: 2 come in the empty station, 1 is turned away in the full one.
        settings = (1, 2, 1, 1, 1, 0, 0)
        self.check(settings, ("probability", 0), Fraction(1, 3))
        self.check(settings, ("probability", 1), Fraction(2, 3))
        self.check(settings, ("rates",), Fraction(4, 3), Fraction(2, 3), Fraction(2, 3), 0)
        self.check(settings, ("shares",), Fraction(1, 2), 0, Fraction(2, 3))
        self.check(settings, ("arrival_sees", 1), Fraction(1, 2))

    def test_more_servers_than_sources(self):
        settings = (1, 2, 1, 20, 0, 7, 900)
        self.check(settings, ("probability", 2), Fraction(1, 4))
        self.check(settings, ("means",), 1, 0, 1)
        self.check(settings, ("shares",), 0, 0, Fraction(1, 20))
        self.check(settings, ("response_times",), 1, 0)

    def test_balking_without_a_limit(self):
        # Half of them don't join: the tail is 1/4.
        settings = (1, 0, 2, 1, 0, 0, 500)
        self.check(settings, ("probability", 0), Fraction(3, 5))
        self.check(settings, ("probability", 2), Fraction(3, 40))
        self.check(settings, ("rates",), 1, Fraction(4, 5), Fraction(4, 5), 0)
        self.check(settings, ("shares",), Fraction(1, 5), Fraction(1, 4), Fraction(2, 5))

    def test_nobody_joins_a_queue(self):
        settings = (1, 0, 1, 1, 0, 0, 1000)
        self.check(settings, ("probability", 1), Fraction(1, 2))
        self.check(settings, ("probability", 2), 0)
        self.check(settings, ("probability", 1000), 0)
        self.check(settings, ("means",), Fraction(1, 2), 0, Fraction(1, 2))
        self.check(settings, ("shares",), Fraction(1, 2), 0, Fraction(1, 2))

    def test_patience(self):
        # Leaving rates 1, 3 and the arrival rate 3: probabilities 1/7, 3/7, 3/7.
        settings = (3, 0, 1, 1, 2, 2, 0)
        self.check(settings, ("probability", 2), Fraction(3, 7))
        self.check(settings, ("rates",), 3, Fraction(12, 7), Fraction(6, 7), Fraction(6, 7))
        self.check(settings, ("response_times",), Fraction(3, 4), Fraction(1, 4))

    def test_fewer_servers(self):
        self.check((2, 0, 1, 2, 2, 1, 500), ("compare_servers", 1), Fraction(-1, 5), Fraction(-1, 5))

    def test_more_servers_without_a_limit(self):
        self.check((3, 0, 2, 2, 0, 0, 0), ("compare_servers", 2), 0, 0)
        self.check((3, 0, 4, 1, 0, 0, 0), ("compare_servers", 2), Fraction(48, 55) - 3, 0)


class Ranges(unittest.TestCase):
    def test_customers(self):
        for name in ("probability", "arrival_sees"):
            for customers in (1001, 1002, HUGE):
                self.assertEqual(ask_station(ENDLESS, (name, customers)), [[-22]])
                self.assertEqual(ask_station((2, 4, 3, 1, 0, 0, 0), (name, customers)), [[-22]])

    def test_greatest_number_of_customers(self):
        for name in ("probability", "arrival_sees"):
            self.assertEqual(ask_station(ENDLESS, (name, 999)), [told(Fraction(2 ** 999, 3 ** 1000))])
            self.assertEqual(ask_station(ENDLESS, (name, 1000)), [told(Fraction(2 ** 1000, 3 ** 1001))])

    def test_many_digits(self):
        settings = (99999, 0, 5003, 20, 0, 0, 1)
        wanted = Model(*settings).probability(1000)
        self.assertEqual(ask_station(settings, ("probability", 1000)), [wanted])
        self.assertEqual(ask_station(settings, ("arrival_sees", 1000)), [wanted])

    def test_the_limit_and_behind_it(self):
        for settings, limit in (
            ((2, 4, 3, 1, 0, 0, 0), 4), ((2, 0, 3, 1, 5, 0, 0), 5), ((2, 4, 3, 1, 5, 0, 0), 4),
            ((2, 5, 3, 1, 4, 0, 0), 4), ((2, 4, 3, 1, 4, 0, 0), 4), ((2, 40, 3, 1, 40, 0, 0), 40),
        ):
            for name in ("probability", "arrival_sees"):
                replies = ask_station(settings, *[(name, n) for n in (limit - 1, limit, limit + 1, 1000)])
                shares = [fractions_of(reply)[0] for reply in replies]
                # A source within the station doesn't call: the last one is never found inside by another.
                self.assertGreater(shares[0], 0)
                self.assertEqual(shares[1] > 0, name == "probability" or limit != settings[1])
                self.assertEqual(replies[2:], [[0, 0, 1]] * 2)

    def test_compare_servers(self):
        for servers in (0, 21, HUGE):
            self.assertEqual(ask_station(ENDLESS, ("compare_servers", servers)), [[-22]])
        for servers in (1, 20):
            self.assertEqual(ask_station(ENDLESS, ("compare_servers", servers))[0][0], 0)

    def test_compare_servers_and_capacity(self):
        settings = (2, 0, 3, 2, 5, 0, 0)
        replies = ask_station(settings, *[("compare_servers", servers) for servers in (5, 6, 20)])
        self.assertEqual([reply[0] for reply in replies], [0, -22, -22])
        self.assertEqual(ask_station((2, 5, 3, 2, 0, 0, 0), ("compare_servers", 20))[0][0], 0)

    def test_compare_servers_and_stability(self):
        settings = (6, 0, 2, 5, 0, 0, 0)
        replies = ask_station(settings, *[("compare_servers", servers) for servers in (1, 3, 4)])
        self.assertEqual([reply[0] for reply in replies], [-33, -33, 0])
        self.assertEqual(ask_station((6, 0, 2, 5, 40, 1, 0), ("compare_servers", 1))[0][0], 0)


class NothingChanges(unittest.TestCase):
    def test_figures_leave_the_station_as_it_is(self):
        for settings in ((3, 0, 2, 2, 0, 0, 10), (3, 9, 2, 2, 30, 4, 10)):
            calls = look((2, 5, 20))
            replies = ask_station(settings, *calls, *calls)
            self.assertEqual(replies[:len(calls)], replies[len(calls):])

    def test_compare_servers_leaves_the_servers(self):
        replies = ask_station((3, 0, 2, 2, 0, 0, 0), ("means",), ("compare_servers", 9), ("means",))
        self.assertEqual(replies[0], replies[2])

    def test_no_call_from_number_6_on_changes_anything(self):
        rows = [(2, 1, 16, 1, 3, 5), (1, 1, 8, 1, 6, 7), (3, 1, 99, 1, 7, 9)]
        adds = [("add_class",) + row for row in rows]
        for settings in (ENDLESS, (3, 9, 2, 2, 5, 4, 10)):
            looks = look((1, 2))[::3] + look_classes(3)
            others = [
                ("erlang_b", 20, 7, 2), ("erlang_c", 19, 7, 2), ("fewest_servers", 1, 7, 2, 1, 9),
                ("vacation_wait", 9, 1, 100, 1), ("probability", 9), ("arrival_sees", 9), ("compare_servers", 2),
                ("times", [2, 0, 1]), ("cost", [1, 2, 0]),
            ]
            replies = ask_station(settings, *adds, *looks, *others, *looks)[3:]
            self.assertEqual([reply for reply in replies if reply[0] < 0], [])
            self.assertEqual(replies[-len(looks):], replies[:len(looks)])
            # What the figures show, and what only a later change would bring to light.
            later = [("set_servers", 3), ("set_rates", 1, 1), ("remove_class", 0)] + look_classes(2) + look((4,))[::3]
            self.assertEqual(
                ask_station(settings, *adds, *others, *later)[3 + len(others):],
                ask_station(settings, *adds, *later)[3:],
            )

    def test_figures_make_no_class(self):
        replies = ask_station(ENDLESS, *look((1, 2)), ("remove_class", 0))
        self.assertEqual(replies[-1], [-2])


if __name__ == "__main__":
    unittest.main()
