"""Reads calls, one behind another, out of a list of whole numbers."""

# For each call's number: how many whole numbers it has, then how many rows.
SHAPES = (
    (5, 2),  # start
    (1, 0),  # set
    (1, 0),  # pass_by
    (1, 0),  # would
    (1, 0),  # hottest
    (0, 0),  # left
    (1, 0),  # cooled
    (0, 0),  # cured
    (0, 1),  # run
    (0, 1),  # follow
    (1, 0),  # soonest
    (1, 0),  # farthest
    (1, 0),  # rate
    (0, 0),  # next
    (1, 0),  # part
    (1, 0),  # log
    (1, 0),  # safe
    (1, 0),  # need
    (0, 0),  # state
)


# Only the place moves: the list that is handed in is never changed.
class Reader:
    def __init__(self, calls):
        self.calls = calls
        self.place = 0

    def is_at_end(self):
        return self.place >= len(self.calls)

    def read_number(self):
        number = self.calls[self.place]
        self.place += 1
        return number

    def read_row(self):
        length = self.read_number()
        row = self.calls[self.place:self.place + length]
        self.place += length
        return row

    def read_given(self, call):
        shape = SHAPES[call]
        given = []
        for turn in range(shape[0]):
            given.append(self.read_number())
        for turn in range(shape[1]):
            given.append(self.read_row())
        return given
