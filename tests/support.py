"""Calls by name, and a second reckoning of stations, classes and shares to hold the program's answers against."""

from fractions import Fraction

from lonestations.desk import answers

NUMBERS = {
    "create": 0,
    "set_station": 1,
    "set_servers": 2,
    "set_rates": 3,
    "add_class": 4,
    "remove_class": 5,
    "probability": 6,
    "means": 7,
    "rates": 8,
    "shares": 9,
    "response_times": 10,
    "arrival_sees": 11,
    "compare_servers": 12,
    "erlang_b": 13,
    "erlang_c": 14,
    "fewest_servers": 15,
    "loads": 16,
    "wait_fifo": 17,
    "waits": 18,
    "times": 19,
    "conservation": 20,
    "cost": 21,
    "best_order": 22,
    "vacation_wait": 23,
    "summary": 24,
}

OF_AN_ORDER = ("waits", "times", "conservation", "cost")

HUGE = 4294967295


def as_numbers(call):
    """Give back a call like ("set_servers", 2) or ("waits", [1, 0]) as it stands in a list of calls."""
    given = [NUMBERS[call[0]]]
    for value in call[1:]:
        given.extend([len(value)] + value if isinstance(value, list) else [value])
    return given


def ask(*calls):
    """Hand in calls as one list, and give back one list of numbers a call."""
    given = []
    for call in calls:
        given.extend(as_numbers(call))
    if not 1 <= len(calls) <= 60 or len(given) > 600:
        raise AssertionError("the document rules out so many calls")
    answered = answers(given)
    replies = []
    place = 0
    while place < len(answered):
        behind = place + 1 + answered[place]
        replies.append(answered[place + 1:behind])
        place = behind
    if place != len(answered) or len(replies) != len(calls):
        raise AssertionError(f"{calls}: not an answer for each call: {answered}")
    return replies


def ask_station(settings, *calls):
    """Give back what the calls answer on an instance with this station."""
    replies = ask(("create",), ("set_station",) + tuple(settings), *calls)
    if replies[:2] != [[0], [0]]:
        raise AssertionError(f"{settings}: {replies[:2]}")
    return replies[2:]


def ask_classes(rows, *calls):
    """Give back what the calls answer on an instance with these classes."""
    replies = ask(("create",), *[("add_class",) + tuple(row) for row in rows], *calls)
    if replies[:len(rows) + 1] != [[0]] + [[number] for number in range(len(rows))]:
        raise AssertionError(f"{rows}: {replies[:len(rows) + 1]}")
    return replies[len(rows) + 1:]


def told(*values, first=0):
    """Give back the answer that tells this number and these fractions."""
    numbers = [first]
    for value in values:
        numbers.extend([Fraction(value).numerator, Fraction(value).denominator])
    return numbers


def fractions_of(reply, first=0):
    """Give back the fractions of an answer that told(..) could have made."""
    if reply[0] != first or len(reply) % 2 == 0:
        raise AssertionError(f"not fractions: {reply}")
    return [Fraction(num, den) for num, den in zip(reply[1::2], reply[2::2])]


def look(servers=(1, 2, 3, 20)):
    """Give back calls that show all that can be seen of a station."""
    return (
        [("means",), ("rates",), ("shares",), ("response_times",)]
        + [("probability", customers) for customers in (0, 1, 2, 3, 5, 40, 41)]
        + [("arrival_sees", customers) for customers in (0, 1, 2, 3, 40)]
        + [("compare_servers", number) for number in servers]
    )


def look_classes(count):
    """Give back calls that show all that can be seen of so many classes."""
    calls = [("summary",), ("loads",), ("wait_fifo",), ("best_order",), ("vacation_wait", 2, 3, 5, 7)]
    for order in (list(range(count)), list(reversed(range(count)))):
        calls += [(name, order) for name in OF_AN_ORDER]
    return calls


class Model:
    """A station reckoned with Python's own fractions, straight from the document's terms."""

    def __init__(self, arrival, sources, service, servers, capacity, patience, balking):
        self.a, self.N, self.m, self.c = arrival, sources, service, servers
        self.K, self.t, self.k = capacity, patience, balking
        limits = [limit for limit in (sources, capacity) if limit != 0]
        self.limit = min(limits) if limits else None
        last = servers if self.limit is None else self.limit
        shares = [Fraction(1)]
        for n in range(last):
            shares.append(shares[n] * self.u(n) / self.d(n + 1))
        self.q = Fraction(0) if limits else self.u(last) / self.d(last)
        if self.q >= 1 or (not limits and patience != 0):
            raise AssertionError("not stable")
        whole = sum(shares[:last]) + shares[last] / (1 - self.q)
        self.last = last
        self.head = [share / whole for share in shares]

    def offered(self, n):
        return Fraction(self.a) if self.N == 0 else Fraction((self.N - n) * self.a)

    def u(self, n):
        if n == self.limit:
            return Fraction(0)
        joins = 1 if n < self.c else Fraction(1000 - self.k, 1000)
        return self.offered(n) * joins

    def d(self, n):
        return Fraction(min(n, self.c) * self.m + max(0, n - self.c) * self.t)

    def p(self, n):
        if n <= self.last:
            return self.head[n]
        return self.head[self.last] * self.q ** (n - self.last)

    def mean(self, value):
        """The mean of a value that is linear behind the last customer number of its own."""
        near = sum(self.head[n] * value(n) for n in range(self.last))
        step = value(self.last + 1) - value(self.last)
        far = value(self.last) / (1 - self.q) + step * self.q / (1 - self.q) ** 2
        return near + self.head[self.last] * far

    def customers(self):
        return self.mean(lambda n: Fraction(n))

    def waiting(self):
        return self.mean(lambda n: Fraction(max(0, n - self.c)))

    def busy(self):
        return self.mean(lambda n: Fraction(min(n, self.c)))

    def accepted(self):
        return self.mean(self.u)

    def delayed(self):
        return self.mean(lambda n: self.u(n) if n >= self.c else Fraction(0))

    def all_offered(self):
        return self.mean(self.offered)

    def means(self):
        return told(self.customers(), self.waiting(), self.busy())

    def rates(self):
        return told(self.all_offered(), self.accepted(), self.m * self.busy(), self.t * self.waiting())

    def shares(self):
        accepted = self.accepted()
        return told(1 - accepted / self.all_offered(), self.delayed() / accepted, self.busy() / self.c)

    def response_times(self):
        return told(self.customers() / self.accepted(), self.waiting() / self.accepted())

    def probability(self, n):
        return told(0 if self.limit is not None and n > self.limit else self.p(n))

    def arrival_sees(self, n):
        if self.limit is not None and n > self.limit:
            return told(0)
        return told(self.p(n) * self.offered(n) / self.all_offered())


def stations():
    """Give back settings of stable stations of all kinds: with and without each limit, patience and balking."""
    found = []
    for sources, capacity in ((0, 0), (0, 40), (1, 0), (7, 0), (40, 0), (7, 5), (5, 7), (6, 6)):
        for servers in (1, 2, 5):
            for patience, balking in ((0, 0), (0, 250), (0, 1000), (3, 0), (100000, 999)):
                if patience == 0 or sources + capacity != 0:
                    found.append((4, sources, 5, servers, capacity, patience, balking))
    for servers in (1, 2, 20):
        found.append((9, 0, 2, servers, servers, 0, 0))
        found.append((9, 3, 2, servers, servers, 1, 500))
        found.append((9, 3, 2, servers, 20, 0, 0))
    found.append((100000, 40, 1, 20, 40, 100000, 1000))
    found.append((1, 40, 100000, 20, 40, 1, 1))
    found.append((99999, 0, 5000, 20, 0, 0, 0))
    found.append((100000, 0, 1, 20, 0, 0, 1000))
    return found


class ClassModel:
    """Classes reckoned with Python's own fractions, straight from the document's terms."""

    def __init__(self, rows):
        self.r = [row[0] for row in rows]
        self.f = [Fraction(row[1], row[2]) for row in rows]
        self.g = [Fraction(row[3], row[4]) for row in rows]
        self.w = [row[5] for row in rows]
        self.numbers = range(len(rows))
        self.load = [self.r[number] * self.f[number] for number in self.numbers]
        self.total = sum(self.load, Fraction(0))
        self.R = self.backlog(self.numbers)

    def backlog(self, numbers):
        return sum((self.r[number] * self.g[number] for number in numbers), Fraction(0)) / 2

    def loads(self):
        return told(*self.load, self.total, first=len(self.numbers) + 1)

    def fifo(self):
        return self.R / (1 - self.total)

    def shares(self, order, number):
        """The product of the two free shares of a class, and the first of them."""
        ahead = order[:order.index(number)]
        s = sum(self.load[other] for other in ahead)
        return (1 - s) * (1 - s - self.load[number]), 1 - s

    def wait(self, order, number):
        return self.R / self.shares(order, number)[0]

    def time(self, order, number):
        both, free = self.shares(order, number)
        upto = order[:order.index(number) + 1]
        return self.f[number] / free + self.backlog(upto) / both

    def waits(self, order):
        return told(*[self.wait(order, number) for number in self.numbers], first=len(self.numbers))

    def times(self, order):
        return told(*[self.time(order, number) for number in self.numbers], first=len(self.numbers))

    def conservation(self, order):
        work = sum(self.load[number] * self.wait(order, number) for number in self.numbers)
        return told(work, self.total * self.fifo())

    def cost(self, order):
        return told(sum(self.w[number] * self.r[number] * self.wait(order, number) for number in self.numbers))

    def best_order(self):
        return sorted(self.numbers, key=lambda number: (-self.w[number] / self.f[number], number))


def class_lists():
    """Give back lists of stable classes: none, one, two to five, just stable ones, dear ones and free ones."""
    return [
        [],
        [(1, 1, 2, 1, 2, 3)],
        [(1, 1, 4, 1, 8, 1), (1, 1, 2, 1, 2, 4)],
        [(3, 1, 7, 2, 49, 5), (2, 1, 9, 1, 3, 0), (5, 1, 50, 1, 2500, 100000)],
        [(1, 1, 10, 1, 100, 2), (1, 1, 5, 1, 25, 4), (1, 3, 10, 1, 10, 6), (1, 2, 10, 4, 100, 4)],
        [(1, 1, 8, 1, 8, 7), (2, 1, 16, 1, 3, 1), (3, 1, 99, 1, 7, 9), (4, 1, 33, 5, 6, 0), (5, 1, 77, 1, 11, 2)],
        [(1, 999999, 1000000, 1, 1, 1)],
        [(99999, 1, 100000, 1000000, 1, 100000)],
        [(1, 1, 3, 1, 9, 1), (1, 1, 3, 1, 9, 1), (3, 111111, 1000000, 1, 81, 1)],
        [(100000, 1, 500001, 1, 1, 100000)] * 5,
        [(7, 3, 1000, 1, 999, 1), (100000, 1, 999983, 1, 7, 3), (1, 999, 1999, 1, 1, 0), (2, 7, 999, 3, 2, 99991)],
    ]
