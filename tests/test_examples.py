"""The document's examples, row by row."""

import json
import re
import unittest

from tests.support import NUMBERS, ask

STATIONS = """
    create() -> 0
    set_station(2, 0, 3, 1, 0, 0, 0) -> 0
    means() -> 0, 2, 1, 4, 3, 2, 3
    rates() -> 0, 2, 1, 2, 1, 2, 1, 0, 1
    shares() -> 0, 0, 1, 2, 3, 2, 3
    response_times() -> 0, 1, 1, 2, 3
    probability(3) -> 0, 8, 81
    set_station(1, 2, 1, 1, 0, 0, 0) -> 0
    means() -> 0, 6, 5, 2, 5, 4, 5
    arrival_sees(0) -> 0, 1, 2
    set_station(2, 0, 1, 1, 2, 1, 500) -> 0
    rates() -> 0, 2, 1, 1, 1, 3, 4, 1, 4
    shares() -> 0, 1, 2, 1, 2, 3, 4
    compare_servers(2) -> 0, 1, 5, 1, 5
    set_station(3, 0, 3, 1, 0, 0, 0) -> error -33
    set_servers(2) -> 0
    set_rates(1, 1) -> 0
"""

CLASSES = """
    loads() -> error -11
    create() -> 0
    probability(0) -> error -6
    erlang_b(2, 3, 2) -> 0, 9, 29
    erlang_c(2, 3, 2) -> 0, 9, 14
    fewest_servers(0, 3, 2, 1, 10) -> 4
    erlang_c(1, 3, 2) -> error -33
    add_class(1, 1, 4, 1, 8, 1) -> 0
    add_class(1, 1, 2, 1, 2, 4) -> 1
    add_class(1, 1, 2, 1, 5, 0) -> error -22
    loads() -> 3, 1, 4, 1, 2, 3, 4
    wait_fifo() -> 0, 5, 4
    waits([0, 1]) -> 2, 5, 12, 5, 3
    conservation([0, 1]) -> 0, 15, 16, 15, 16
    cost([0, 1]) -> 0, 85, 12
    best_order() -> 2, 1, 0
    waits([1, 0]) -> 2, 5, 2, 5, 8
    cost([1, 0]) -> 0, 5, 1
    times([0, 1]) -> 2, 1, 3, 7, 3
    vacation_wait(1, 1, 1, 1) -> 0, 7, 4
    waits([0, 0]) -> error -22
    remove_class(2) -> error -2
    summary() -> 0, 2, 1
"""


def rows_of(text):
    """Give back the calls of an example and their answers."""
    calls = []
    replies = []
    for row in text.strip().splitlines():
        name, given, reply = re.fullmatch(r" *(\w+)\((.*)\) -> (?:error )?(.*)", row).groups()
        calls.append((name,) + tuple(json.loads(f"[{given}]")))
        replies.append([int(number) for number in reply.split(", ")])
    return calls, replies


class Examples(unittest.TestCase):
    def check(self, text):
        calls, replies = rows_of(text)
        for call, reply, answered in zip(calls, replies, ask(*calls), strict=True):
            self.assertEqual(answered, reply, call)

    def test_stations(self):
        self.check(STATIONS)

    def test_classes(self):
        self.check(CLASSES)

    def test_each_call_stands_in_an_example(self):
        named = {call[0] for text in (STATIONS, CLASSES) for call in rows_of(text)[0]}
        self.assertEqual(named, set(NUMBERS))

    def test_probabilities_of_the_third_station(self):
        calls = [("create",), ("set_station", 2, 0, 1, 1, 2, 1, 500)]
        calls += [("probability", customers) for customers in range(4)]
        self.assertEqual(ask(*calls)[2:], [[0, 1, 4], [0, 1, 2], [0, 1, 4], [0, 0, 1]])


if __name__ == "__main__":
    unittest.main()
