"""Builds lines of calls and takes their answers apart, for the tests."""

from pointgroups.groups import answers

LEAST = -2147483648
MOST = 2147483647
MOST_RADIUS = 18446744073709551615
NO_GROUP = 65535
MOST_CALLS = 60


def full(*numbers):
    """A point's eight numbers: those given, then zeros."""
    return list(numbers) + [0] * (8 - len(numbers))


def begin():
    return [0]


def point(*numbers):
    return [1, 8] + full(*numbers)


def part(k, rounds):
    return [2, k, rounds]


def group(number):
    return [3, number]


def middle(number):
    return [4, number]


def cost():
    return [5]


def dense(radius, least, number):
    return [6, radius, least, number]


def denses(radius, least):
    return [7, radius, least]


def merge(kind, k):
    return [8, kind, k]


def cut(kind, groups, number):
    return [9, kind, groups, number]


def told(size, *sums):
    """What middle answers."""
    return [size] + full(*sums)


def told_cost(divided, divisor):
    """What cost answers."""
    return [0] + list(divided.to_bytes(32, "little")) + list(divisor.to_bytes(32, "little"))


def on_a_row(*places):
    """The calls that make points which differ in their first numbers alone."""
    return [begin()] + [point(place) for place in places]


def ask(*calls):
    """Each call's answer, as a list, for the calls as one line."""
    given = answers([number for call in calls for number in call])
    found = []
    at = 0
    while at < len(given):
        size = given[at]
        found.append(given[at + 1:at + 1 + size])
        at += 1 + size
    if at != len(given) or len(found) != len(calls):
        raise ValueError(f"not one answer a call: {given}")
    return found


def ask_last(*calls):
    return ask(*calls)[-1]


def ask_behind(before, *calls):
    """The answers of the calls that stand behind those of before."""
    return ask(*before, *calls)[len(before):]


def ask_all(before, calls):
    """The answers of the calls, each behind those of before, in as many lines as they need."""
    room = MOST_CALLS - len(before)
    given = []
    for start in range(0, len(calls), room):
        given += ask_behind(before, *calls[start:start + room])
    return given
