"""Numbers drawn one behind the other from a seed, and rows shuffled by them."""

FACTOR = 6364136223846793005
SUMMAND = 1442695040888963407
STATES = 18446744073709551616
DROPPED = 8589934592


class Draws:
    """What is drawn from one seed, in its order."""

    def __init__(self, seed):
        self.state = seed

    def below(self, limit):
        self.state = (self.state * FACTOR + SUMMAND) % STATES
        return self.state // DROPPED % limit

    def shuffled(self, things):
        row = list(things)
        for i in range(len(row) - 1, 0, -1):
            j = self.below(i + 1)
            thing = row[i]
            row[i] = row[j]
            row[j] = thing
        return row
