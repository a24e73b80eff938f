"""The distribution of the number of customers in a stable station, and its means."""

from lonestations.exact import lowest, power, product


def balanced_weights(station, last):
    """Answer whole numbers in the ratio of the probabilities of 0 to last customers."""
    weight = 1
    for customers in range(1, last + 1):
        weight *= 1000 * station.leaving(customers)
    weights = [weight]
    for customers in range(last):
        # Nothing is cut off: of the leaving rates that the first weight is made of,
        # only those that were divided by before are gone.
        weight = weight * station.joining(customers) // (1000 * station.leaving(customers + 1))
        weights.append(weight)
    return weights


class Distribution:
    """The weights of 0 to last customers, and the tail: what each weight beyond is of the one ahead of it."""

    def __init__(self, station):
        self.station = station
        self.last = station.limit()
        self.tail = (0, 1)
        if self.last == 0:
            # From here on both rates stay as they are, so the weights go down evenly.
            self.last = station.servers
            self.tail = lowest(station.joining(self.last), 1000 * station.leaving(self.last))
        self.weights = balanced_weights(station, self.last)

    def weighed(self, values, step):
        """Answer the sum of all weights times their values, in units of 1 / gap ** 2 (see below).

        The values are those of 0 to last customers; beyond, each is greater by step.
        """
        # With q = up / down for the tail, q + q ** 2 + .. is up / gap,
        # and q + 2 * q ** 2 + .. is up * down / gap ** 2.
        up = self.tail[0]
        down = self.tail[1]
        gap = down - up
        near = sum([weight * value for weight, value in zip(self.weights, values)])
        far = self.weights[self.last] * (values[self.last] * up * gap + step * up * down)
        return near * gap * gap + far

    def total(self):
        """Answer the sum of all weights, in the units of weighed."""
        return self.weighed([1 for weight in self.weights], 0)

    def mean(self, values, step):
        """Answer the mean of a quantity, told as for weighed."""
        return lowest(self.weighed(values, step), self.total())

    def counts(self):
        """Answer the numbers of customers that have a weight of their own."""
        return list(range(self.last + 1))

    def probability(self, customers):
        """Answer the probability of this number of customers."""
        gap = self.tail[1] - self.tail[0]
        near = min(customers, self.last)
        share = lowest(self.weights[near] * gap * gap, self.total())
        return product(share, power(self.tail, customers - near))

    def customers(self):
        """Answer the mean number of customers."""
        return self.mean(self.counts(), 1)

    def waiting(self):
        """Answer the mean number of waiting customers."""
        return self.mean([self.station.waiting(customers) for customers in self.counts()], 1)

    def busy(self):
        """Answer the mean number of busy servers."""
        return self.mean([self.station.busy(customers) for customers in self.counts()], 0)

    def offered(self):
        """Answer the mean offered rate."""
        return self.mean([self.station.offered(customers) for customers in self.counts()], 0)

    def accepted(self):
        """Answer the accepted rate."""
        thousandths = self.mean([self.station.joining(customers) for customers in self.counts()], 0)
        return product(thousandths, (1, 1000))

    def delayed(self):
        """Answer the delayed rate."""
        values = [0 for customers in self.counts()]
        for customers in range(self.station.servers, self.last + 1):
            values[customers] = self.station.joining(customers)
        return product(self.mean(values, 0), (1, 1000))
