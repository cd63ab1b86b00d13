"""What an instance holds."""


class Instance:
    """The ships, each a tuple of arrival hour and weight, and the departures in increasing order."""

    def __init__(self):
        self.ships = []
        self.departures = []
