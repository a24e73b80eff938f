"""Calls by name, and a second reckoning of the stations to hold the program's answers against."""

from fractions import Fraction

from lonestations.desk import answers

NUMBERS = {
    "create": 0,
    "set_station": 1,
    "set_servers": 2,
    "set_rates": 3,
    "add_class": 4,
    "remove_class": 5,
    "probability": 6,
    "means": 7,
    "rates": 8,
    "shares": 9,
    "response_times": 10,
    "arrival_sees": 11,
    "compare_servers": 12,
}

HUGE = 4294967295


def ask(*calls):
    """Hand in calls like ("set_servers", 2) as one list, and give back one list of numbers a call."""
    given = []
    for call in calls:
        given.append(NUMBERS[call[0]])
        given.extend(call[1:])
    if not 1 <= len(calls) <= 60 or len(given) > 600:
        raise AssertionError("the document rules out so many calls")
    answered = answers(given)
    replies = []
    place = 0
    while place < len(answered):
        behind = place + 1 + answered[place]
        replies.append(answered[place + 1:behind])
        place = behind
    if place != len(answered) or len(replies) != len(calls):
        raise AssertionError(f"{calls}: not an answer for each call: {answered}")
    return replies


def ask_station(settings, *calls):
    """Give back what the calls answer on an instance with this station."""
    replies = ask(("create",), ("set_station",) + tuple(settings), *calls)
    if replies[:2] != [[0], [0]]:
        raise AssertionError(f"{settings}: {replies[:2]}")
    return replies[2:]


def told(*values):
    """Give back the answer that tells these fractions."""
    numbers = [0]
    for value in values:
        numbers.extend([Fraction(value).numerator, Fraction(value).denominator])
    return numbers


def fractions_of(reply):
    """Give back the fractions of an answer that told(..) could have made."""
    if reply[0] != 0 or len(reply) % 2 == 0:
        raise AssertionError(f"not fractions: {reply}")
    return [Fraction(num, den) for num, den in zip(reply[1::2], reply[2::2])]


def look(servers=(1, 2, 3, 20)):
    """Give back calls that show all that can be seen of a station."""
    return (
        [("means",), ("rates",), ("shares",), ("response_times",)]
        + [("probability", customers) for customers in (0, 1, 2, 3, 5, 40, 41)]
        + [("arrival_sees", customers) for customers in (0, 1, 2, 3, 40)]
        + [("compare_servers", number) for number in servers]
    )


class Model:
    """A station reckoned with Python's own fractions, straight from the document's terms."""

    def __init__(self, arrival, sources, service, servers, capacity, patience, balking):
        self.a, self.N, self.m, self.c = arrival, sources, service, servers
        self.K, self.t, self.k = capacity, patience, balking
        limits = [limit for limit in (sources, capacity) if limit != 0]
        self.limit = min(limits) if limits else None
        last = servers if self.limit is None else self.limit
        shares = [Fraction(1)]
        for n in range(last):
            shares.append(shares[n] * self.u(n) / self.d(n + 1))
        self.q = Fraction(0) if limits else self.u(last) / self.d(last)
        if self.q >= 1 or (not limits and patience != 0):
            raise AssertionError("not stable")
        whole = sum(shares[:last]) + shares[last] / (1 - self.q)
        self.last = last
        self.head = [share / whole for share in shares]

    def offered(self, n):
        return Fraction(self.a) if self.N == 0 else Fraction((self.N - n) * self.a)

    def u(self, n):
        if n == self.limit:
            return Fraction(0)
        joins = 1 if n < self.c else Fraction(1000 - self.k, 1000)
        return self.offered(n) * joins

    def d(self, n):
        return Fraction(min(n, self.c) * self.m + max(0, n - self.c) * self.t)

    def p(self, n):
        if n <= self.last:
            return self.head[n]
        return self.head[self.last] * self.q ** (n - self.last)

    def mean(self, value):
        """The mean of a value that is linear behind the last customer number of its own."""
        near = sum(self.head[n] * value(n) for n in range(self.last))
        step = value(self.last + 1) - value(self.last)
        far = value(self.last) / (1 - self.q) + step * self.q / (1 - self.q) ** 2
        return near + self.head[self.last] * far

    def customers(self):
        return self.mean(lambda n: Fraction(n))

    def waiting(self):
        return self.mean(lambda n: Fraction(max(0, n - self.c)))

    def busy(self):
        return self.mean(lambda n: Fraction(min(n, self.c)))

    def accepted(self):
        return self.mean(self.u)

    def delayed(self):
        return self.mean(lambda n: self.u(n) if n >= self.c else Fraction(0))

    def all_offered(self):
        return self.mean(self.offered)

    def means(self):
        return told(self.customers(), self.waiting(), self.busy())

    def rates(self):
        return told(self.all_offered(), self.accepted(), self.m * self.busy(), self.t * self.waiting())

    def shares(self):
        accepted = self.accepted()
        return told(1 - accepted / self.all_offered(), self.delayed() / accepted, self.busy() / self.c)

    def response_times(self):
        return told(self.customers() / self.accepted(), self.waiting() / self.accepted())

    def probability(self, n):
        return told(0 if self.limit is not None and n > self.limit else self.p(n))

    def arrival_sees(self, n):
        if self.limit is not None and n > self.limit:
            return told(0)
        return told(self.p(n) * self.offered(n) / self.all_offered())


def stations():
    """Give back settings of stable stations of all kinds: with and without each limit, patience and balking."""
    found = []
    for sources, capacity in ((0, 0), (0, 40), (1, 0), (7, 0), (40, 0), (7, 5), (5, 7), (6, 6)):
        for servers in (1, 2, 5):
            for patience, balking in ((0, 0), (0, 250), (0, 1000), (3, 0), (100000, 999)):
                if patience == 0 or sources + capacity != 0:
                    found.append((4, sources, 5, servers, capacity, patience, balking))
    for servers in (1, 2, 20):
        found.append((9, 0, 2, servers, servers, 0, 0))
        found.append((9, 3, 2, servers, servers, 1, 500))
        found.append((9, 3, 2, servers, 20, 0, 0))
    found.append((100000, 40, 1, 20, 40, 100000, 1000))
    found.append((1, 40, 100000, 20, 40, 1, 1))
    found.append((99999, 0, 5000, 20, 0, 0, 0))
    found.append((100000, 0, 1, 20, 0, 0, 1000))
    return found
