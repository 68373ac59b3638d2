"""What Longago refuses, each kind of refusal an error of its own."""


class LongError(ValueError):
    """Any refusal."""


class BadChain(LongError):
    """These places and moves are no chain."""


class BadText(LongError):
    """A text that is no chain's, by the number of its first row that isn't so."""

    def __init__(self, row):
        super().__init__(f"row {row} is no row of a chain's text")
        self.row = row


class NoSuch(LongError):
    """There is no such move, place, order or count of steps."""


class NotOne(LongError):
    """A chain has several shares of its own, as it has several closed groups."""

    def __init__(self, groups):
        super().__init__(f"there are {len(groups)} closed groups")
        self.groups = [list(group) for group in groups]


class NeverOne(LongError):
    """Not all places meet: this is the least pair that never does."""

    def __init__(self, pair):
        super().__init__(f"the places {pair} never meet")
        self.pair = pair


class NotOrdered(LongError):
    """An order isn't kept by all moves, this one being the first that doesn't."""

    def __init__(self, move):
        super().__init__(f"move {move} doesn't keep the order")
        self.move = move


class TooMany(LongError):
    """Walks from all places can come to too many maps."""
