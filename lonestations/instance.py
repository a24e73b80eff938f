"""What an instance holds."""

from lonestations.waiting import are_stable


class Instance:
    """A station or None, and a list of the classes by their numbers."""

    def __init__(self):
        self.station = None
        self.classes = []

    def summary(self):
        """Answer whether there is a station, how many classes there are, and whether they are stable."""
        has_station = 0 if self.station is None else 1
        stable = 1 if are_stable(self.classes) else 0
        return [has_station, len(self.classes), stable]
