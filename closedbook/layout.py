"""How calls lie in one list, one behind another."""

# For each call's number: how many whole numbers it has, then how many rows.
SHAPES = {
    1: (1, 0),
    2: (0, 1),
    3: (0, 0),
    4: (1, 0),
    5: (1, 0),
    6: (1, 0),
    7: (1, 0),
    8: (0, 0),
    9: (1, 0),
    10: (1, 0),
    11: (1, 0),
    12: (2, 0),
    13: (0, 0),
    14: (2, 0),
    15: (1, 0),
    16: (1, 0),
    17: (1, 0),
    18: (2, 0),
    19: (1, 0),
    20: (0, 0),
    21: (0, 0),
    22: (1, 0),
    23: (1, 1),
}


class Reader:
    """Goes through a list of calls, which it only reads."""

    def __init__(self, calls):
        self.calls = calls
        self.place = 0

    def at_end(self):
        return self.place >= len(self.calls)

    def take_number(self):
        number = self.calls[self.place]
        self.place = self.place + 1
        return number

    def take_row(self):
        length = self.take_number()
        row = self.calls[self.place:self.place + length]
        self.place = self.place + length
        return row

    def take_given(self, call):
        """What the call is handed: its whole numbers, then its rows, in one list."""
        shape = SHAPES[call]
        given = []
        for turn in range(shape[0]):
            given.append(self.take_number())
        for turn in range(shape[1]):
            given.append(self.take_row())
        return given
