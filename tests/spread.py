"""Numbers and points to make many lines of, the same each time."""


class Numbers:
    """The same numbers each time, spread well enough to make lines of."""

    def __init__(self, seed):
        self.state = seed

    def below(self, bound):
        self.state = (self.state * 6364136223846793005 + 1442695040888963407) % 2 ** 64
        return (self.state >> 33) % bound

    def points(self, many, least, spread, width):
        """Points of which the first numbers, as many as width says, are spread from least on; then zeros."""
        return [[least + self.below(spread) for place in range(width)] + [0] * (8 - width) for one in range(many)]


def far(one, other):
    return sum((a - b) ** 2 for a, b in zip(one, other))
