"""The document's requirements 1 (balance), 2 (normalization) and 3 (customers), from the answers alone."""

import unittest
from fractions import Fraction

from tests.support import ask_station, fractions_of, stations


def limit_of(settings):
    """Give back the limit of a station, None if there is none."""
    limits = [limit for limit in (settings[1], settings[4]) if limit != 0]
    return min(limits) if limits else None


def joining_rate(settings, n):
    arrival, sources, service, servers, capacity, patience, balking = settings
    if n == limit_of(settings):
        return Fraction(0)
    offered = arrival if sources == 0 else (sources - n) * arrival
    return offered * (Fraction(1) if n < servers else Fraction(1000 - balking, 1000))


def leaving_rate(settings, n):
    arrival, sources, service, servers, capacity, patience, balking = settings
    return min(n, servers) * service + max(0, n - servers) * patience


def probabilities(settings, count):
    """Give back the answered probabilities of fewer than count customers."""
    replies = []
    for start in range(0, count, 50):
        calls = [("probability", n) for n in range(start, min(start + 50, count))]
        replies += ask_station(settings, *calls)
    return [fractions_of(reply)[0] for reply in replies]


class Requirements(unittest.TestCase):
    def test_balance(self):
        for settings in stations():
            shares = probabilities(settings, 46)
            for n in range(45):
                if limit_of(settings) is None or n <= limit_of(settings):
                    self.assertEqual(
                        shares[n] * joining_rate(settings, n),
                        shares[n + 1] * leaving_rate(settings, n + 1),
                        (settings, n),
                    )

    def test_balance_far_out(self):
        settings = (3, 0, 2, 2, 0, 0, 10)
        shares = probabilities(settings, 1001)
        for n in range(1000):
            self.assertEqual(shares[n] * joining_rate(settings, n), shares[n + 1] * leaving_rate(settings, n + 1))

    def test_normalization(self):
        for settings in stations():
            if limit_of(settings) is not None:
                shares = probabilities(settings, 42)
                self.assertEqual(sum(shares), 1, settings)
                self.assertEqual([share for share in shares if share < 0], [])
                self.assertEqual(set(shares[limit_of(settings) + 1:]), {0})

    def test_normalization_without_a_limit(self):
        for settings in stations():
            if limit_of(settings) is None:
                shares = probabilities(settings, 42)
                tail = joining_rate(settings, 41) / leaving_rate(settings, 41)
                self.assertEqual(sum(shares) + shares[41] * tail / (1 - tail), 1, settings)

    def test_customers(self):
        for settings in stations():
            offered, accepted, throughput, giving_up = fractions_of(ask_station(settings, ("rates",))[0])
            self.assertEqual(accepted, throughput + giving_up, settings)
            self.assertLessEqual(accepted, offered, settings)

    def test_means_are_those_of_the_probabilities(self):
        for settings in stations():
            if limit_of(settings) is not None:
                shares = probabilities(settings, limit_of(settings) + 1)
                customers, waiting, busy = fractions_of(ask_station(settings, ("means",))[0])
                self.assertEqual(customers, sum(n * share for n, share in enumerate(shares)), settings)
                self.assertEqual(customers, waiting + busy, settings)
                self.assertEqual(busy, sum(min(n, settings[3]) * share for n, share in enumerate(shares)))

    def test_what_arrivals_see_sums_to_one(self):
        for settings in stations():
            if limit_of(settings) is not None:
                calls = [("arrival_sees", n) for n in range(limit_of(settings) + 1)]
                shares = [fractions_of(reply)[0] for reply in ask_station(settings, *calls)]
                self.assertEqual(sum(shares), 1, settings)


if __name__ == "__main__":
    unittest.main()
