"""A class of customers."""

from lonestations.exact import product


class CustomerClass:
    """An arrival rate, the first and the second moment of the service time as fractions, and a cost of waiting."""

    def __init__(self, arrival, first, second, cost):
        self.arrival = arrival
        self.first = first
        self.second = second
        self.cost = cost

    def load(self):
        """Answer the share of its time that the server gives to this class."""
        return product((self.arrival, 1), self.first)

    def backlog(self):
        """Answer half of the arrival rate times the second moment: what this class adds to R."""
        return product((self.arrival, 2), self.second)
