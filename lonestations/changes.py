"""The operations that change an instance, but create.

Each is given the instance and a list of its arguments, and answers a list of numbers.
"""

from lonestations.codes import NO_CLASS, NOTHING_THERE, OUT_OF_RANGE, TOO_MANY_CLASSES
from lonestations.customer_class import CustomerClass
from lonestations.exact import lowest
from lonestations.ranges import are_moments, is_cost, is_rate
from lonestations.station import Station

MOST_CLASSES = 5


def put_station(instance, station):
    """Make this the instance's station, if nothing stands against it."""
    refusal = station.refusal()
    if refusal != 0:
        return [-refusal]
    instance.station = station
    return [0]


def set_station(instance, given):
    """Replace the station."""
    return put_station(
        instance, Station(given[0], given[1], given[2], given[3], given[4], given[5], given[6])
    )


def set_servers(instance, given):
    """Change the number of servers."""
    if instance.station is None:
        return [-NOTHING_THERE]
    return put_station(instance, instance.station.with_servers(given[0]))


def set_rates(instance, given):
    """Change both rates."""
    if instance.station is None:
        return [-NOTHING_THERE]
    return put_station(instance, instance.station.with_rates(given[0], given[1]))


def add_class(instance, given):
    """Add a class and answer its number."""
    if not (is_rate(given[0]) and are_moments(given[1], given[2], given[3], given[4]) and is_cost(given[5])):
        return [-OUT_OF_RANGE]
    if len(instance.classes) == MOST_CLASSES:
        return [-TOO_MANY_CLASSES]
    mean = lowest(given[1], given[2])
    second = lowest(given[3], given[4])
    instance.classes.append(CustomerClass(given[0], mean, second, given[5]))
    return [len(instance.classes) - 1]


def remove_class(instance, given):
    """Remove a class and answer how many remain."""
    if given[0] >= len(instance.classes):
        return [-NO_CLASS]
    instance.classes.pop(given[0])
    return [len(instance.classes)]


CHANGES = {1: set_station, 2: set_servers, 3: set_rates, 4: add_class, 5: remove_class}


def change(instance, number, given):
    """Answer the operation with this number."""
    operation = CHANGES[number]
    return operation(instance, given)
