"""What an instance holds."""


class Instance:
    """A station or None, and a list of classes, each a tuple of the numbers that add_class was given."""

    def __init__(self):
        self.station = None
        self.classes = []
