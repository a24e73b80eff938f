"""The desk: calls come in as whole numbers, one behind another, and so do their answers go out."""

from lonestations.changes import change
from lonestations.codes import NO_INSTANCE
from lonestations.figures import figure
from lonestations.instance import Instance

CREATE = 0
LAST_CHANGE = 5

# How many arguments each operation has.
WIDTHS = {0: 0, 1: 7, 2: 1, 3: 2, 4: 6, 5: 1, 6: 1, 7: 0, 8: 0, 9: 0, 10: 0, 11: 1, 12: 1}


def answer(instance, number, given):
    """Answer one operation on an instance, or on None ahead of the first create."""
    if number == CREATE:
        return [0]
    if instance is None:
        return [-NO_INSTANCE]
    if number <= LAST_CHANGE:
        return change(instance, number, given)
    return figure(instance.station, number, given)


def answers(calls):
    """Answer all calls: for each, how many numbers are answered, then these."""
    instance = None
    numbers = []
    place = 0
    while place < len(calls):
        number = calls[place]
        behind = place + 1 + WIDTHS[number]
        if number == CREATE:
            instance = Instance()
        reply = answer(instance, number, calls[place + 1:behind])
        numbers.append(len(reply))
        numbers.extend(reply)
        place = behind
    return numbers
