"""Waiting times of classes of customers at one server.

An order of priorities is a list of the classes' numbers, the one with the highest priority first. All but the loads
and the best order is for stable classes alone, so no share of free time is 0.
"""

from lonestations.exact import added, difference, product, quotient, sum_of


def class_loads(classes):
    """Answer the load of each class."""
    return [each.load() for each in classes]


def total_load(classes):
    """Answer the sum of all loads."""
    return sum_of(class_loads(classes))


def are_stable(classes):
    """Say whether the loads leave the server some free time."""
    load = total_load(classes)
    return load[0] < load[1]


def whole_backlog(classes):
    """Answer what the document calls R."""
    return sum_of([each.backlog() for each in classes])


def arrival_order_wait(classes):
    """Answer the waiting time of every class in the order of arrival."""
    return quotient(whole_backlog(classes), difference((1, 1), total_load(classes)))


def priority_waits(classes, order):
    """Answer for each class, by number, its waiting time without interruptions."""
    backlog = whole_backlog(classes)
    found = [(0, 1) for each in classes]
    free = (1, 1)
    for number in order:
        left = difference(free, classes[number].load())
        found[number] = quotient(backlog, product(free, left))
        free = left
    return found


def interrupted_times(classes, order):
    """Answer for each class, by number, its mean time in the system with interruptions."""
    backlog = (0, 1)
    found = [(0, 1) for each in classes]
    free = (1, 1)
    for number in order:
        each = classes[number]
        left = difference(free, each.load())
        # Classes further behind are interrupted at once: they don't hold up this one.
        backlog = added(backlog, each.backlog())
        waiting = quotient(backlog, product(free, left))
        found[number] = added(quotient(each.first, free), waiting)
        free = left
    return found


def work(classes, waits):
    """Answer the sum of the loads times these waiting times."""
    return sum_of([product(load, wait) for load, wait in zip(class_loads(classes), waits)])


def whole_cost(classes, waits):
    """Answer the sum of the costs times the arrival rates times these waiting times."""
    return sum_of([product((each.cost * each.arrival, 1), wait) for each, wait in zip(classes, waits)])


def cheapest_order(classes):
    """Answer the classes by cost / mean service time, the greatest first, equal ones by their numbers."""
    # All quotients are multiplied by the numerators of all means: so they are whole numbers.
    scale = 1
    for each in classes:
        scale *= each.first[0]
    urgency = [each.cost * each.first[1] * (scale // each.first[0]) for each in classes]
    return sorted(range(len(classes)), key=lambda number: -urgency[number])
