"""The object that the calls are made on: places, their joins as they were told, and the row that is lit."""


class Ground:
    def __init__(self):
        # No places: not begun. Whatever is begun has one at least.
        self.size = 0
        # Each the lesser place first, so that a join is found whichever way round it's asked for.
        self.joins = []
        self.lit = []

    def lay(self, size, joins):
        self.size = size
        self.joins = joins
        self.lit = []
