"""The operations that tell the figures of the classes.

Each is given the list of classes and a list of its arguments, and answers a list of numbers. The arguments of those
that are about an order of priorities are this order.
"""

from lonestations.codes import NOT_STABLE, NOTHING_THERE, OUT_OF_RANGE
from lonestations.exact import added, lowest, product, quotient, told
from lonestations.ranges import are_moments, is_order
from lonestations.waiting import (
    are_stable, arrival_order_wait, cheapest_order, class_loads, interrupted_times, priority_waits, total_load,
    whole_cost, work,
)


def loads(classes, given):
    """Tell the load of each class and the total load."""
    found = class_loads(classes)
    found.append(total_load(classes))
    return told(len(found), found)


def fifo_refusal(classes):
    """Answer the code of what stands against a wait in the order of arrival, 0 if nothing does."""
    if len(classes) == 0:
        return NOTHING_THERE
    if not are_stable(classes):
        return NOT_STABLE
    return 0


def wait_fifo(classes, given):
    """Tell the waiting time in the order of arrival."""
    refusal = fifo_refusal(classes)
    if refusal != 0:
        return [-refusal]
    return told(0, [arrival_order_wait(classes)])


def vacation_wait(classes, given):
    """Tell the waiting time in the order of arrival if the server takes vacations."""
    if not are_moments(given[0], given[1], given[2], given[3]):
        return [-OUT_OF_RANGE]
    refusal = fifo_refusal(classes)
    if refusal != 0:
        return [-refusal]
    first = lowest(given[0], given[1])
    second = lowest(given[2], given[3])
    longer = quotient(second, product((2, 1), first))
    return told(0, [added(arrival_order_wait(classes), longer)])


def order_refusal(classes, order):
    """Answer the code of what stands against an order of priorities, 0 if nothing does."""
    if not is_order(order, len(classes)):
        return OUT_OF_RANGE
    if not are_stable(classes):
        return NOT_STABLE
    return 0


def waits(classes, order):
    """Tell each class's waiting time without interruptions."""
    refusal = order_refusal(classes, order)
    if refusal != 0:
        return [-refusal]
    return told(len(classes), priority_waits(classes, order))


def times(classes, order):
    """Tell each class's mean time in the system with interruptions."""
    refusal = order_refusal(classes, order)
    if refusal != 0:
        return [-refusal]
    return told(len(classes), interrupted_times(classes, order))


def conservation(classes, order):
    """Tell the work with an order of priorities, and that in the order of arrival."""
    refusal = order_refusal(classes, order)
    if refusal != 0:
        return [-refusal]
    in_turn = product(total_load(classes), arrival_order_wait(classes))
    return told(0, [work(classes, priority_waits(classes, order)), in_turn])


def cost(classes, order):
    """Tell the cost of an order of priorities."""
    refusal = order_refusal(classes, order)
    if refusal != 0:
        return [-refusal]
    return told(0, [whole_cost(classes, priority_waits(classes, order))])


def best_order(classes, given):
    """Tell the best order of priorities."""
    if not are_stable(classes):
        return [-NOT_STABLE]
    return [len(classes)] + cheapest_order(classes)


CLASS_FIGURES = {
    16: loads,
    17: wait_fifo,
    18: waits,
    19: times,
    20: conservation,
    21: cost,
    22: best_order,
    23: vacation_wait,
}


def class_figure(classes, number, given):
    """Answer the operation with this number."""
    operation = CLASS_FIGURES[number]
    return operation(classes, given)
