"""Dense places: which points are dense for a radius and a least, and what hangs together there."""

from pointgroups.apart import far_apart

NO_GROUP = 65535


class Places:
    def __init__(self, chosen, how_many):
        self.chosen = chosen
        self.how_many = how_many


def numbers_near(point, points, radius):
    return [number for number, other in enumerate(points) if far_apart(point, other) <= radius]


def only_dense(numbers, near, least):
    return [number for number in numbers if len(near[number]) >= least]


# A point is near itself, so a dense one stands among its own neighbours, and one that isn't does not.
def dense_neighbours(points, radius, least):
    near = [numbers_near(point, points, radius) for point in points]
    return [only_dense(numbers, near, least) for numbers in near]


def hanging_together(neighbours, start):
    reached = {start: True}
    waiting = [start]
    while waiting:
        number = waiting.pop()
        for other in neighbours[number]:
            if other not in reached:
                reached[other] = True
                waiting.append(other)
    return list(reached)


# A dense point's neighbours are all of its own group, so this is right for dense points too.
def first_group(numbers, groups):
    return min([groups[number] for number in numbers], default=NO_GROUP)


def dense_places(points, radius, least):
    neighbours = dense_neighbours(points, radius, least)
    groups = {}
    how_many = 0
    for number, numbers in enumerate(neighbours):
        if number in numbers and number not in groups:
            for member in hanging_together(neighbours, number):
                groups[member] = how_many
            how_many += 1
    return Places([first_group(numbers, groups) for numbers in neighbours], how_many)
