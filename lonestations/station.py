"""A station: its settings, and its rates with a given number of customers."""

from lonestations.codes import NOT_STABLE, OUT_OF_RANGE
from lonestations.ranges import is_balking, is_capacity, is_patience, is_rate, is_servers, is_sources


class Station:
    """The settings of a station, in range or not, stable or not; they are never changed."""

    def __init__(self, arrival, sources, service, servers, capacity, patience, balking):
        self.arrival = arrival
        self.sources = sources
        self.service = service
        self.servers = servers
        self.capacity = capacity
        self.patience = patience
        self.balking = balking

    def with_servers(self, servers):
        """Answer this station with another number of servers."""
        return Station(
            self.arrival, self.sources, self.service, servers, self.capacity, self.patience, self.balking
        )

    def with_rates(self, arrival, service):
        """Answer this station with other rates of arrivals and services."""
        return Station(
            arrival, self.sources, service, self.servers, self.capacity, self.patience, self.balking
        )

    def is_in_range(self):
        """Say whether each setting lies in its range."""
        return (
            is_rate(self.arrival)
            and is_sources(self.sources)
            and is_rate(self.service)
            and is_servers(self.servers)
            and is_capacity(self.capacity, self.servers)
            and is_patience(self.patience)
            and is_balking(self.balking)
        )

    def limit(self):
        """Answer the greatest number of customers, 0 if there is none."""
        if self.sources == 0:
            return self.capacity
        if self.capacity == 0:
            return self.sources
        return min(self.sources, self.capacity)

    def is_stable(self):
        """Say whether the number of customers has a distribution."""
        if self.limit() != 0:
            return True
        return self.patience == 0 and self.joining(self.servers) < 1000 * self.leaving(self.servers)

    def refusal(self):
        """Answer the code of what stands against these settings, 0 if nothing does."""
        if not self.is_in_range():
            return OUT_OF_RANGE
        if not self.is_stable():
            return NOT_STABLE
        return 0

    def busy(self, customers):
        """Answer the number of busy servers."""
        return min(customers, self.servers)

    def waiting(self, customers):
        """Answer the number of waiting customers."""
        return max(0, customers - self.servers)

    def offered(self, customers):
        """Answer the rate of those who want to come."""
        if self.sources == 0:
            return self.arrival
        return (self.sources - customers) * self.arrival

    def joining(self, customers):
        """Answer the rate of those who join, in thousandths: so it is a whole number."""
        if self.limit() != 0 and customers == self.limit():
            return 0
        if customers < self.servers:
            return 1000 * self.offered(customers)
        return (1000 - self.balking) * self.offered(customers)

    def leaving(self, customers):
        """Answer the rate of those who leave, served or not."""
        return self.busy(customers) * self.service + self.waiting(customers) * self.patience
