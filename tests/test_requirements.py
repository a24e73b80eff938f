"""The document's requirements, from the answers alone; the eighth, of the errors, stands in test_errors.py."""

import unittest
from fractions import Fraction
from itertools import permutations

from tests.support import ask, ask_classes, ask_station, class_lists, fractions_of, stations


def limit_of(settings):
    """Give back the limit of a station, None if there is none."""
    limits = [limit for limit in (settings[1], settings[4]) if limit != 0]
    return min(limits) if limits else None


def joining_rate(settings, n):
    arrival, sources, service, servers, capacity, patience, balking = settings
    if n == limit_of(settings):
        return Fraction(0)
    offered = arrival if sources == 0 else (sources - n) * arrival
    return offered * (Fraction(1) if n < servers else Fraction(1000 - balking, 1000))


def leaving_rate(settings, n):
    arrival, sources, service, servers, capacity, patience, balking = settings
    return min(n, servers) * service + max(0, n - servers) * patience


def probabilities(settings, count):
    """Give back the answered probabilities of fewer than count customers."""
    replies = []
    for start in range(0, count, 50):
        calls = [("probability", n) for n in range(start, min(start + 50, count))]
        replies += ask_station(settings, *calls)
    return [fractions_of(reply)[0] for reply in replies]


class Requirements(unittest.TestCase):
    def test_balance(self):
        for settings in stations():
            shares = probabilities(settings, 46)
            for n in range(45):
                if limit_of(settings) is None or n <= limit_of(settings):
                    self.assertEqual(
                        shares[n] * joining_rate(settings, n),
                        shares[n + 1] * leaving_rate(settings, n + 1),
                        (settings, n),
                    )

    def test_balance_far_out(self):
        settings = (3, 0, 2, 2, 0, 0, 10)
        shares = probabilities(settings, 1001)
        for n in range(1000):
            self.assertEqual(shares[n] * joining_rate(settings, n), shares[n + 1] * leaving_rate(settings, n + 1))

    def test_normalization(self):
        for settings in stations():
            if limit_of(settings) is not None:
                shares = probabilities(settings, 42)
                self.assertEqual(sum(shares), 1, settings)
                self.assertEqual([share for share in shares if share < 0], [])
                self.assertEqual(set(shares[limit_of(settings) + 1:]), {0})

    def test_normalization_without_a_limit(self):
        for settings in stations():
            if limit_of(settings) is None:
                shares = probabilities(settings, 42)
                tail = joining_rate(settings, 41) / leaving_rate(settings, 41)
                self.assertEqual(sum(shares) + shares[41] * tail / (1 - tail), 1, settings)

    def test_customers(self):
        for settings in stations():
            offered, accepted, throughput, giving_up = fractions_of(ask_station(settings, ("rates",))[0])
            self.assertEqual(accepted, throughput + giving_up, settings)
            self.assertLessEqual(accepted, offered, settings)

    def test_means_are_those_of_the_probabilities(self):
        for settings in stations():
            if limit_of(settings) is not None:
                shares = probabilities(settings, limit_of(settings) + 1)
                customers, waiting, busy = fractions_of(ask_station(settings, ("means",))[0])
                self.assertEqual(customers, sum(n * share for n, share in enumerate(shares)), settings)
                self.assertEqual(customers, waiting + busy, settings)
                self.assertEqual(busy, sum(min(n, settings[3]) * share for n, share in enumerate(shares)))

    def test_what_arrivals_see_sums_to_one(self):
        for settings in stations():
            if limit_of(settings) is not None:
                calls = [("arrival_sees", n) for n in range(limit_of(settings) + 1)]
                shares = [fractions_of(reply)[0] for reply in ask_station(settings, *calls)]
                self.assertEqual(sum(shares), 1, settings)


class Erlang(unittest.TestCase):
    RATES = [(1, 1), (3, 2), (2, 3), (100000, 1), (1, 100000), (99999, 5003), (7, 7)]

    def test_all_servers_busy(self):
        for arrival, service in self.RATES:
            for servers in (1, 2, 3, 7, 20):
                settings = (arrival, 0, service, servers, servers, 0, 0)
                busy, lost = ask_station(settings, ("probability", servers), ("erlang_b", servers, arrival, service))
                self.assertEqual(busy, lost, settings)

    def test_all_servers_busy_whatever_patience_and_balking_are(self):
        settings = (3, 0, 2, 4, 4, 9, 700)
        busy, lost = ask_station(settings, ("probability", 4), ("erlang_b", 4, 3, 2))
        self.assertEqual(busy, lost)

    def test_delayed(self):
        checked = 0
        for arrival, service in self.RATES:
            for servers in (1, 2, 3, 7, 20):
                if arrival < servers * service:
                    settings = (arrival, 0, service, servers, 0, 0, 0)
                    calls = [("rates",), ("shares",), ("erlang_c", servers, arrival, service)]
                    rates, shares, delayed = [fractions_of(reply) for reply in ask_station(settings, *calls)]
                    self.assertEqual(rates[1] * shares[1], arrival * delayed[0], settings)
                    checked += 1
        self.assertGreater(checked, 20)

    def test_unstable_where_the_delayed_share_is_not_defined(self):
        for arrival, service, servers in ((1, 1, 1), (6, 3, 2), (7, 3, 2), (100000, 5000, 20)):
            calls = [("create",), ("set_station", arrival, 0, service, servers, 0, 0, 0)]
            replies = ask(*calls, ("erlang_c", servers, arrival, service))
            self.assertEqual(replies[1:], [[-33], [-33]])


class Classes(unittest.TestCase):
    def replies(self, rows, name):
        """Give back the answers of this call for all orders."""
        orders = [list(order) for order in permutations(range(len(rows)))]
        replies = []
        for start in range(0, len(orders), 40):
            replies += ask_classes(rows, *[(name, order) for order in orders[start:start + 40]])
        return replies

    def test_work(self):
        for rows in class_lists()[1:]:
            loads, fifo = ask_classes(rows, ("loads",), ("wait_fifo",))
            in_turn = fractions_of(loads, len(rows) + 1)[-1] * fractions_of(fifo)[0]
            for reply in self.replies(rows, "conservation"):
                self.assertEqual(fractions_of(reply), [in_turn, in_turn], rows)

    def test_work_is_that_of_the_waits(self):
        for rows in class_lists()[1:]:
            loads = fractions_of(ask_classes(rows, ("loads",))[0], len(rows) + 1)
            for told_waits, told_work in zip(self.replies(rows, "waits"), self.replies(rows, "conservation")):
                waits = fractions_of(told_waits, len(rows))
                work = sum(load * wait for load, wait in zip(loads, waits))
                self.assertEqual(fractions_of(told_work)[0], work)

    def test_best_order(self):
        for rows in class_lists():
            best = ask_classes(rows, ("best_order",))[0][1:]
            least = fractions_of(ask_classes(rows, ("cost", best))[0])[0]
            costs = [fractions_of(reply)[0] for reply in self.replies(rows, "cost")]
            self.assertEqual(least, min(costs), rows)

    def test_the_best_order_is_better_than_others(self):
        rows = class_lists()[5]
        costs = [fractions_of(reply)[0] for reply in self.replies(rows, "cost")]
        self.assertEqual(costs.count(min(costs)), 1)


class MoreServers(unittest.TestCase):
    def test_the_lost_share_never_rises(self):
        for num, den in ((0, 1), (1, 1000000), (1, 2), (3, 2), (199, 1), (1000000, 1)):
            shares = []
            for start in range(0, 201, 50):
                calls = [("erlang_b", servers, num, den) for servers in range(start, min(start + 50, 201))]
                shares += [fractions_of(reply)[0] for reply in ask(("create",), *calls)[1:]]
            self.assertEqual(len(shares), 201)
            for servers in range(200):
                self.assertGreaterEqual(shares[servers], shares[servers + 1], (num, den, servers))


if __name__ == "__main__":
    unittest.main()
