"""create, set_station, set_servers and set_rates: their ranges, stability, and what they leave as it was."""

import unittest

from tests.support import HUGE, Model, ask, ask_station, look, stations

# A station that keeps the capacity's limit, so it is stable whatever its rates are.
BOUNDED = {
    "arrival": 3, "sources": 0, "service": 2, "servers": 2, "capacity": 40, "patience": 1, "balking": 100,
}
# One without a limit, stable with at least 2 servers.
ENDLESS = (3, 0, 2, 2, 0, 0, 0)


def bounded(**changed):
    """Give back the settings of BOUNDED with some of them changed."""
    return tuple({**BOUNDED, **changed}.values())


class Setting(unittest.TestCase):
    def answer_to(self, settings):
        return ask(("create",), ("set_station",) + tuple(settings))[1]

    def check_shown(self, settings, replies):
        model = Model(*settings)
        self.assertEqual(replies, [model.means(), model.rates(), model.shares()], settings)

    def check_station(self, settings):
        self.check_shown(settings, ask_station(settings, ("means",), ("rates",), ("shares",)))


class Create(Setting):
    def test_there_is_nothing_behind_it(self):
        replies = ask(("create",), ("means",), ("remove_class", 0))
        self.assertEqual(replies, [[0], [-6], [-2]])

    def test_it_replaces_the_instance(self):
        one_class = ("add_class", 1, 1, 4, 1, 8, 1)
        calls = [("create",), ("set_station",) + ENDLESS, one_class, one_class]
        calls += [("create",), ("means",), ("set_servers", 3), ("set_rates", 1, 1), ("remove_class", 0), one_class]
        self.assertEqual(ask(*calls), [[0], [0], [0], [1], [0], [-6], [-6], [-6], [-2], [0]])

    def test_nothing_else_makes_an_instance(self):
        calls = [("set_station",) + ENDLESS, ("means",), ("add_class", 1, 1, 4, 1, 8, 1), ("remove_class", 0)]
        self.assertEqual(ask(*calls), [[-11]] * 4)


class SetStation(Setting):
    def check_range(self, name, inside, outside):
        for value in inside:
            self.assertEqual(self.answer_to(bounded(**{name: value})), [0], (name, value))
            self.check_station(bounded(**{name: value}))
        for value in outside:
            self.assertEqual(self.answer_to(bounded(**{name: value})), [-22], (name, value))

    def test_arrival(self):
        self.check_range("arrival", (1, 2, 99999, 100000), (0, 100001, HUGE))

    def test_sources(self):
        self.check_range("sources", (0, 1, 2, 39, 40), (41, 42, HUGE))

    def test_service(self):
        self.check_range("service", (1, 2, 99999, 100000), (0, 100001, HUGE))

    def test_servers(self):
        self.check_range("servers", (1, 2, 19, 20), (0, 21, 40, HUGE))

    def test_capacity(self):
        self.check_range("capacity", (2, 3, 39, 40), (1, 41, HUGE))

    def test_capacity_and_servers(self):
        for servers in (1, 2, 7, 20):
            self.assertEqual(self.answer_to(bounded(servers=servers, capacity=servers)), [0])
            self.check_station(bounded(servers=servers, capacity=servers))
            self.assertEqual(self.answer_to(bounded(servers=servers, capacity=40)), [0])
            self.assertEqual(self.answer_to(bounded(servers=servers, sources=3, capacity=0)), [0])
            self.check_station(bounded(servers=servers, sources=3, capacity=0))
            if servers > 1:
                self.assertEqual(self.answer_to(bounded(servers=servers, capacity=servers - 1)), [-22])
                self.assertEqual(self.answer_to(bounded(servers=servers, capacity=1)), [-22])

    def test_patience(self):
        self.check_range("patience", (0, 1, 99999, 100000), (100001, HUGE))

    def test_balking(self):
        self.check_range("balking", (0, 1, 500, 999, 1000), (1001, HUGE))

    def test_all_at_their_limits(self):
        self.check_station((100000, 40, 100000, 20, 40, 100000, 1000))
        self.check_station((100000, 40, 1, 20, 40, 0, 0))
        self.check_station((1, 1, 1, 1, 1, 0, 0))
        self.check_station((100000, 0, 1, 1, 40, 0, 0))

    def test_it_replaces_the_station(self):
        calls = [("create",)]
        chosen = stations()[::10]
        for settings in chosen:
            calls += [("set_station",) + settings, ("means",), ("rates",), ("shares",)]
        replies = ask(*calls)[1:]
        for place, settings in enumerate(chosen):
            self.assertEqual(replies[4 * place], [0])
            self.check_shown(settings, replies[4 * place + 1:4 * place + 4])


class Stability(Setting):
    def check_just(self, settings, place, greatest):
        """Check that so much at this place is stable, and one more isn't."""
        stable = list(settings)
        stable[place] = greatest
        self.assertEqual(self.answer_to(stable), [0], stable)
        self.check_station(stable)
        stable[place] = greatest + 1
        self.assertEqual(self.answer_to(stable), [-33], stable)

    def test_just_stable_by_the_arrival(self):
        self.check_just((0, 0, 3, 1, 0, 0, 0), 0, 2)
        self.check_just((0, 0, 3, 2, 0, 0, 0), 0, 5)
        self.check_just((0, 0, 5000, 20, 0, 0, 0), 0, 99999)

    def test_just_stable_by_the_service(self):
        for servers, service in ((1, 7), (2, 4), (3, 3), (6, 2)):
            self.assertEqual(self.answer_to((6, 0, service, servers, 0, 0, 0)), [0])
            self.check_station((6, 0, service, servers, 0, 0, 0))
            self.assertEqual(self.answer_to((6, 0, service - 1, servers, 0, 0, 0)), [-33])

    def test_just_stable_by_the_servers(self):
        self.assertEqual(self.answer_to((6, 0, 2, 3, 0, 0, 0)), [-33])
        self.assertEqual(self.answer_to((6, 0, 2, 4, 0, 0, 0)), [0])

    def test_just_stable_by_the_balking(self):
        self.assertEqual(self.answer_to((1000, 0, 999, 1, 0, 0, 0)), [-33])
        self.assertEqual(self.answer_to((1000, 0, 999, 1, 0, 0, 1)), [-33])
        self.assertEqual(self.answer_to((1000, 0, 999, 1, 0, 0, 2)), [0])
        self.check_station((1000, 0, 999, 1, 0, 0, 2))
        self.check_just((0, 0, 1, 1, 0, 0, 500), 0, 1)
        self.check_just((0, 0, 1, 3, 0, 0, 999), 0, 2999)

    def test_nobody_joins_a_queue(self):
        self.assertEqual(self.answer_to((100000, 0, 1, 1, 0, 0, 1000)), [0])
        self.check_station((100000, 0, 1, 1, 0, 0, 1000))

    def test_patience_without_a_limit_is_not_stable(self):
        for patience in (1, 100000):
            self.assertEqual(self.answer_to((1, 0, 100, 1, 0, patience, 0)), [-33])
            self.assertEqual(self.answer_to((1, 0, 100, 1, 0, patience, 1000)), [-33])

    def test_a_limit_is_always_stable(self):
        for sources, capacity in ((1, 0), (40, 0), (0, 1), (0, 40), (40, 40), (1, 40)):
            for patience in (0, 1):
                self.assertEqual(self.answer_to((100000, sources, 1, 1, capacity, patience, 0)), [0])
                self.check_station((100000, sources, 1, 1, capacity, patience, 0))


class SetServers(Setting):
    def test_it_changes_the_servers_alone(self):
        for settings in stations():
            most = 20 if settings[4] in (0, 40) else settings[4]
            fewest = 1 if settings[1] + settings[4] != 0 else settings[3]
            for servers in (fewest, most):
                changed = settings[:3] + (servers,) + settings[4:]
                replies = ask_station(settings, ("set_servers", servers), ("means",), ("rates",), ("shares",))
                self.assertEqual(replies[0], [0])
                self.check_shown(changed, replies[1:])

    def test_range(self):
        for servers in (1, 2, 19, 20):
            self.assertEqual(ask_station(bounded(), ("set_servers", servers)), [[0]])
        for servers in (0, 21, HUGE):
            self.assertEqual(ask_station(bounded(), ("set_servers", servers)), [[-22]])
            self.assertEqual(ask_station(ENDLESS, ("set_servers", servers)), [[-22]])

    def test_capacity(self):
        for servers, reply in ((4, 0), (5, 0), (6, -22), (20, -22)):
            self.assertEqual(ask_station(bounded(capacity=5), ("set_servers", servers)), [[reply]])
        self.assertEqual(ask_station(bounded(capacity=0, sources=5), ("set_servers", 20)), [[0]])

    def test_stability(self):
        self.assertEqual(ask_station(ENDLESS, ("set_servers", 1)), [[-33]])
        self.assertEqual(ask_station((6, 0, 2, 5, 0, 0, 0), ("set_servers", 3)), [[-33]])
        self.assertEqual(ask_station((6, 0, 2, 5, 0, 0, 0), ("set_servers", 4)), [[0]])
        self.assertEqual(ask_station((6, 40, 2, 5, 0, 0, 0), ("set_servers", 1)), [[0]])


class SetRates(Setting):
    def test_it_changes_both_rates_alone(self):
        for settings in stations():
            service = 100000 if settings[3] == 20 else 90000
            changed = (7, settings[1], service) + settings[3:]
            replies = ask_station(settings, ("set_rates", 7, service), ("means",), ("rates",), ("shares",))
            self.assertEqual(replies[0], [0])
            self.check_shown(changed, replies[1:])

    def test_range(self):
        for rate in (1, 2, 99999, 100000):
            self.assertEqual(ask_station(bounded(), ("set_rates", rate, 1)), [[0]])
            self.assertEqual(ask_station(bounded(), ("set_rates", 1, rate)), [[0]])
        for rate in (0, 100001, HUGE):
            self.assertEqual(ask_station(bounded(), ("set_rates", rate, 1)), [[-22]])
            self.assertEqual(ask_station(bounded(), ("set_rates", 1, rate)), [[-22]])

    def test_stability(self):
        self.assertEqual(ask_station(ENDLESS, ("set_rates", 2, 1)), [[-33]])
        self.assertEqual(ask_station(ENDLESS, ("set_rates", 1, 1)), [[0]])
        self.assertEqual(ask_station(ENDLESS, ("set_rates", 100000, 50000)), [[-33]])
        self.assertEqual(ask_station(ENDLESS, ("set_rates", 99999, 50000)), [[0]])
        self.assertEqual(ask_station(bounded(), ("set_rates", 100000, 1)), [[0]])

    def test_one_change_behind_another(self):
        calls = [("set_servers", 5), ("set_rates", 9, 2), ("set_servers", 6), ("means",), ("rates",), ("shares",)]
        replies = ask_station(ENDLESS, *calls)
        self.assertEqual(replies[:3], [[0]] * 3)
        self.check_shown((9, 0, 2, 6, 0, 0, 0), replies[3:])

    def test_the_classes_have_nothing_to_do_with_it(self):
        one_class = ("add_class", 100000, 1, 1, 1, 1, 1)
        calls = [("create",), one_class, ("set_station",) + ENDLESS, one_class]
        calls += look((2, 3)) + [("remove_class", 0)] + look((2, 3))
        replies = ask(*calls)
        alone = ask_station(ENDLESS, *look((2, 3)))
        self.assertEqual(replies[:4], [[0], [0], [0], [1]])
        self.assertEqual(replies[4:4 + len(alone)], alone)
        self.assertEqual(replies[4 + len(alone):], [[1]] + alone)


if __name__ == "__main__":
    unittest.main()
