"""The desk: calls come in as whole numbers, one behind another, and so do their answers go out."""

from lonestations.changes import change
from lonestations.class_figures import class_figure
from lonestations.codes import NO_INSTANCE
from lonestations.figures import figure
from lonestations.formulas import formula
from lonestations.instance import Instance

CREATE = 0
LAST_CHANGE = 5
LAST_OF_A_STATION = 12
LAST_FORMULA = 15
SUMMARY = 24

# How many arguments each operation has, but those that have an order of priorities.
WIDTHS = {
    0: 0, 1: 7, 2: 1, 3: 2, 4: 6, 5: 1, 6: 1, 7: 0, 8: 0, 9: 0, 10: 0, 11: 1, 12: 1,
    13: 3, 14: 3, 15: 5, 16: 0, 17: 0, 22: 0, 23: 4, 24: 0,
}


def answer(instance, number, given):
    """Answer one operation on an instance, or on None ahead of the first create."""
    if number == CREATE:
        return [0]
    if instance is None:
        return [-NO_INSTANCE]
    if number <= LAST_CHANGE:
        return change(instance, number, given)
    if number <= LAST_OF_A_STATION:
        return figure(instance.station, number, given)
    if number <= LAST_FORMULA:
        return formula(number, given)
    if number == SUMMARY:
        return instance.summary()
    return class_figure(instance.classes, number, given)


def span(calls, place):
    """Answer where the arguments of the call at this place begin, and where the next call begins."""
    number = calls[place]
    start = place + 1
    if number in WIDTHS:
        return (start, start + WIDTHS[number])
    # How long the order is stands ahead of it.
    return (start + 1, start + 1 + calls[start])


def answers(calls):
    """Answer all calls: for each, how many numbers are answered, then these."""
    instance = None
    numbers = []
    place = 0
    while place < len(calls):
        number = calls[place]
        bounds = span(calls, place)
        if number == CREATE:
            instance = Instance()
        reply = answer(instance, number, calls[bounds[0]:bounds[1]])
        numbers.append(len(reply))
        numbers.extend(reply)
        place = bounds[1]
    return numbers
