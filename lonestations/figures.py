"""The operations that tell a station's figures.

Each is given the station and a list of its arguments, and answers a list of numbers.
"""

from lonestations.codes import NOTHING_THERE, OUT_OF_RANGE
from lonestations.distribution import Distribution
from lonestations.exact import difference, product, quotient, told
from lonestations.ranges import is_customers


def probability(station, given):
    """Tell the probability of a number of customers."""
    if not is_customers(given[0]):
        return [-OUT_OF_RANGE]
    return told(0, [Distribution(station).probability(given[0])])


def means(station, given):
    """Tell the mean numbers of customers, of waiting customers and of busy servers."""
    spread = Distribution(station)
    return told(0, [spread.customers(), spread.waiting(), spread.busy()])


def rates(station, given):
    """Tell the mean offered rate, the accepted rate, the throughput and the giving-up rate."""
    spread = Distribution(station)
    throughput = product(spread.busy(), (station.service, 1))
    giving_up = product(spread.waiting(), (station.patience, 1))
    return told(0, [spread.offered(), spread.accepted(), throughput, giving_up])


def shares(station, given):
    """Tell the shares of the lost, of the delayed among the accepted, and of the servers' busy time."""
    spread = Distribution(station)
    accepted = spread.accepted()
    lost = difference((1, 1), quotient(accepted, spread.offered()))
    delayed = quotient(spread.delayed(), accepted)
    return told(0, [lost, delayed, quotient(spread.busy(), (station.servers, 1))])


def response_times(station, given):
    """Tell the mean times in the station and in the queue."""
    spread = Distribution(station)
    accepted = spread.accepted()
    return told(0, [quotient(spread.customers(), accepted), quotient(spread.waiting(), accepted)])


def arrival_sees(station, given):
    """Tell the share of those who want to come that find a number of customers."""
    if not is_customers(given[0]):
        return [-OUT_OF_RANGE]
    spread = Distribution(station)
    finding = product(spread.probability(given[0]), (station.offered(given[0]), 1))
    return told(0, [quotient(finding, spread.offered())])


def compare_servers(station, given):
    """Tell what another number of servers adds to the mean number of customers and to the accepted rate."""
    other = station.with_servers(given[0])
    refusal = other.refusal()
    if refusal != 0:
        return [-refusal]
    now = Distribution(station)
    then = Distribution(other)
    return told(0, [
        difference(then.customers(), now.customers()),
        difference(then.accepted(), now.accepted()),
    ])


FIGURES = {
    6: probability,
    7: means,
    8: rates,
    9: shares,
    10: response_times,
    11: arrival_sees,
    12: compare_servers,
}


def figure(station, number, given):
    """Answer the operation with this number; station is None if there is none."""
    if station is None:
        return [-NOTHING_THERE]
    operation = FIGURES[number]
    return operation(station, given)
