"""How far apart two points are."""


def far_apart(one, other):
    return sum([(left - right) ** 2 for left, right in zip(one, other)])
